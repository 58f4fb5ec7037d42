import PyProof.Rows.All
import Wide.All
import OpenK.AllK
import Wide.FinOn
import PyProof.TypeEq
import PyProof.Rows.StrMul
import PyProof.LongRange
import HandS.ForMost
import HandS.Wide
import HandS.WideBits
import HandS.More
import HandS.StrMore
import HandS.NoneIn
import HandS.Flow
import HandS.SortInts
import PyProof.ListStr
import HandS.Defaults
import HandS.Dict
import HandS.Conv
import HandS.Replace
import PyProof.ReprRoads
import PyProof.ReprBulk
import HandS.IsInst
import HandS.Codes
import HandS.Style
import PySem.Challenge.RW_blindkeys_k09_pressed_key_by_key
set_option Elab.async false
set_option linter.all false
set_option maxRecDepth 100000
set_option maxHeartbeats 4000000
namespace BK
open PySem PySem.Spec PyProof.Rows L2

/-! ### more rules -/
section
variable {A : Around} {s : Shared}
theorem meta_of {n : String} (h : n ∈ ["int", "str", "bool", "NoneType", "list", "tuple", "dict"]) (s' : Shared) : s'.TypeIs (.type n) "type" := by
  simp only [List.mem_cons, List.not_mem_nil, or_false] at h
  rcases h with rfl | rfl | rfl | rfl | rfl | rfl | rfl
  · exact TypeEq.meta_int s'
  · exact TypeEq.meta_str s'
  · exact TypeEq.meta_bool s'
  · exact TypeEq.meta_NoneType s'
  · exact TypeEq.meta_list s'
  · exact TypeEq.meta_tuple s'
  · exact TypeEq.meta_dict s'
theorem eqAt_ty {a b : String} (ha : a ∈ ["int", "str", "bool", "NoneType", "list", "tuple", "dict"]) (hb : b ∈ ["int", "str", "bool", "NoneType", "list", "tuple", "dict"]) : SeqAt.EqAt A s (.type a) (.type b) (decide (a = b)) := fun prog w E Q h => by
  unfold eqBool
  refine wpAny_holding ?_
  by_cases e : a = b
  · subst e
    rw [decide_eq_true rfl] at h
    refine wpAny_ite_split (fun _ => wpAny_bind (wpAny_rule (wpAny_pure h))) (fun hab => absurd (beq_self_eq_true _) hab)
  · rw [decide_eq_false e] at h
    have hne : (Value.type a == Value.type b) = false := beq_eq_false_iff_ne.mpr fun z => e (Value.type.inj z)
    refine wpAny_ite_split (fun hab => absurd hab (by rw [hne]; exact Bool.false_ne_true)) (fun _ => ?_)
    exact wpAny_bind (TypeEq.eq_type_other (meta_of ha) (meta_of hb) hne (wpAny_truthy_bool h))
end
abbrev knownTy : List String := ["int", "str", "bool", "NoneType", "list", "tuple", "dict"]
/-- type(x) in (list, tuple) -/
def rInTy (K : PySem.W.Frag) : R2 := fun x y H Q => ∃ (a : String) (p : Addr) (ns : List String), x = .ty a ∧ y = .ref p ∧ SqT K H p (ns.map V.ty) ∧ a ∈ knownTy ∧ (∀ n ∈ ns, n ∈ knownTy) ∧ Q (.bl (decide (a ∈ ns))) H
theorem vals_ty : ∀ {ns : List String} {us : List Value}, Vals (ns.map V.ty) us → us = ns.map Value.type
  | [], _, .nil => rfl
  | n :: ns, _, .cons r t => by
    have e := vals_ty t
    cases (show _ = Value.type n from r)
    rw [e, List.map_cons]
section
variable {X : Cx}
theorem op_in_ty : OpR X (compareOp .In) (rInTy X.K) := by
  intro pins s σ H x y v u Q I rx ry h
  obtain ⟨a, p, ns, rfl, rfl, hq, ha, hn, q⟩ := h
  cases (show v = Value.type a from rx)
  cases (show u = Value.ref p from ry)
  obtain ⟨its, r, pl, hz⟩ := I.tuple hq
  have e := vals_ty r
  subst e
  refine SeqAt.in_tupleAt (fun y => match y with | .type n => decide (n = a) | _ => false) pl (fun w hw => ?_) ⟨.bl _, H, I, rfl, ?_⟩
  · simp only [List.mem_toArray, List.mem_map] at hw
    obtain ⟨n, hn1, rfl⟩ := hw
    exact eqAt_ty (hn n hn1) ha
  · have e : (((ns.map Value.type).toArray).any (fun y => match y with | .type n => decide (n = a) | _ => false)) = decide (a ∈ ns) := by
      rw [List.any_toArray, List.any_map, Bool.eq_iff_iff, List.any_eq_true, decide_eq_true_iff]
      constructor
      · rintro ⟨n, h1, h2⟩
        have : n = a := of_decide_eq_true h2
        subst this
        exact h1
      · intro h1
        exact ⟨a, h1, decide_eq_true rfl⟩
    rw [e]
    exact q
/-- text * int -/
def rMulS : R2 := fun x y H Q => ∃ z n, x = .str z ∧ y = .int n ∧ MulOk z n ∧ Q (.str (Txt.mul z n)) H
theorem op_mul_str : OpR X (binaryOp .Mult) rMulS := by
  intro pins s σ H x y v u Q I rx ry h
  obtain ⟨z, n, rfl, rfl, ok, q⟩ := h
  obtain ⟨t, rfl⟩ := rx
  obtain ⟨t', rfl⟩ := ry
  exact SB.mul ok fun t2 k => ⟨.str _, H, I.tok _, ⟨_, rfl⟩, q⟩
theorem OpR.or {f : Value → Value → Sem Value} {r r' : R2} (h : OpR X f r) (h' : OpR X f r') : OpR X f (fun x y H Q => r x y H Q ∨ r' x y H Q) := by
  intro pins s σ H x y v u Q I rx ry hh
  rcases hh with hh | hh
  · exact h pins s σ H x y v u Q I rx ry hh
  · exact h' pins s σ H x y v u Q I rx ry hh
theorem pi_or {tg it : PySem.Expr} {w1 w2 : TI} (h1 : PI X tg it w1) (h2 : PI X tg it w2) : PI X tg it (fun σ H R => w1 σ H R ∨ w2 σ H R) := ⟨fun pins s σ H R I h => by
  rcases h with h | h
  · exact h1.run pins s σ H R I h
  · exact h2.run pins s σ H R I h⟩
theorem pg_or {tg : PySem.Expr} {g1 g2 : TG} (h1 : PG X tg g1) (h2 : PG X tg g2) : PG X tg (fun v σ H Q => g1 v σ H Q ∨ g2 v σ H Q) := ⟨fun pins s σ H v u Q I r h => by
  rcases h with h | h
  · exact h1.run pins s σ H v u Q I r h
  · exact h2.run pins s σ H v u Q I r h⟩
end

/-! ### range(a, b) of any ints -/
section
theorem turn_long {P : Program} {w : World} {K : PySem.W.Frag} {tg : PySem.Expr} (it : Addr) (lo : Int) (n : Nat) : Turn P w K tg (Itr lo n) [it] it (fun i h => IsLongIter h it (lo + (i : Nat) * 1) ((n : Int) - (i : Nat)) 1) where
  mem := by simp
  obj := fun i h st b hb => by
    have e : b = it := by simpa using hb
    subst e
    exact ⟨_, st, fun v z => by
      have z' : Data.fields _ = Data.cell v := z
      cases z'⟩
  keep := fun i h h' st k => k it (by simp) _ st
  item := by
    intro X hP hw hK hc i pins s σ H E I hf st hg
    subst hP hw hK
    obtain ⟨f0, f1, f2, f3, f4, f5⟩ := hf it (by simp)
    have W := Walks.longrange (prog := X.prog) (w := X.w) (I.ok.hd hc) it lo 1 n
    refine W.item i s _ _ hg st fun v h' tk hv st' kk => ?_
    obtain ⟨t, rfl⟩ := hv
    have I1 : Inv X pins σ H { s with heap := h', toks := tk } := I.turned (fun b o hb e => kk b o (by simpa using hb) e) f0 f1 f3 f4 f5
    refine ⟨_, rfl, go_of (s := { s with heap := h', toks := tk }) (n := "longrange_iterator") st' rfl rfl (by decide) ⟨.int (lo + i), H, I1, ⟨t, ?_⟩, ⟨rfl, rfl⟩, st', fun b hb => (hf b hb).1⟩⟩
    rw [Int.mul_one]
  done := by
    intro X hP hw hK hc i pins s σ H E I hf st hg
    subst hP hw hK
    obtain ⟨f0, f1, f2, f3, f4, f5⟩ := hf it (by simp)
    exact wpAny_pyNext_long_end (I.ok.hd hc) st (by have : n ≤ i := hg; omega) fun h' eb => ⟨rfl, I.turned (t' := s.toks) (fun b o hb e => eb b o hb e) f0 f1 f3 f4 f5⟩
  self := fun _ _ _ _ _ st h => wpAny_pyIter_longiter st h
variable {X : Cx} {tg : PySem.Expr}
theorem rsize1 (lo hi : Int) : Builtin.Range.rangeSize lo hi 1 = (((hi - lo).toNat : Nat) : Int) := by
  rw [rangeSize_one]
  split <;> omega
theorem range_itL {pins : List (Addr × Obj)} {σ : L2.St} {H : Hp} {s : Shared} {R : It → Hp → Prop} {E : Value → Shared → Prop} {lo hi : Int} {t u v : Tok} {tk : Nat} (I : Inv X pins σ H s)
    (q : R (Itr lo (hi - lo).toNat) H) : wpAny (model X.prog X.w) X.A (pyIter (.ref s.heap.objs.size)) (PIE X pins σ tg R) E { s with heap := s.heap.push { cls := .type "range", data := .fields #[.int lo t, .int hi u, .int 1 v] }, toks := tk } := by
  have I1 : Inv X pins σ H { s with heap := s.heap.push { cls := .type "range", data := .fields #[.int lo t, .int hi u, .int 1 v] }, toks := tk } := I.kept fun b o e => Heap.get?_push_of_some _ e
  have e1 : lo + ((0 : Nat) : Int) * 1 = lo := by simp
  have e2 : (((hi - lo).toNat : Nat) : Int) - ((0 : Nat) : Int) = Builtin.Range.rangeSize lo hi 1 := by rw [rsize1]; omega
  have hf : ∀ b ∈ [(s.heap.push { cls := .type "range", data := .fields #[.int lo t, .int hi u, .int 1 v] }).objs.size], FpOk X pins H b := fun b hb => by
    have e : b = (s.heap.push { cls := .type "range", data := .fields #[.int lo t, .int hi u, .int 1 v] }).objs.size := by simpa using hb
    subst e
    exact I1.fpOk (Nat.le_refl _) (I1.hok.fresh (Nat.le_refl _))
  cases hs : Builtin.Range.small lo hi 1 with
  | true =>
    refine wpAny_pyIter_range (IsRange.new ..) hs ?_
    refine ⟨(s.heap.push { cls := .type "range", data := .fields #[.int lo t, .int hi u, .int 1 v] }).objs.size, [(s.heap.push { cls := .type "range", data := .fields #[.int lo t, .int hi u, .int 1 v] }).objs.size], _, _, H, rfl,
      I1.kept (t' := tk) fun b o e => Heap.get?_push_of_some _ e, turn_range _ lo (hi - lo).toNat, ?_, hf, q⟩
    show IsRangeIter _ _ (lo + ((0 : Nat) : Int) * 1) ((((hi - lo).toNat : Nat) : Int) - ((0 : Nat) : Int)) 1
    rw [e1, e2]
    exact Heap.get?_push_size _ rfl
  | false =>
    refine wpAny_pyIter_longrange (IsRange.new ..) hs ?_
    refine ⟨(s.heap.push { cls := .type "range", data := .fields #[.int lo t, .int hi u, .int 1 v] }).objs.size, [(s.heap.push { cls := .type "range", data := .fields #[.int lo t, .int hi u, .int 1 v] }).objs.size], _, _, H, rfl,
      I1.kept (t' := tk) fun b o e => Heap.get?_push_of_some _ e, turn_long _ lo (hi - lo).toNat, ?_, hf, q⟩
    show IsLongIter _ _ (lo + ((0 : Nat) : Int) * 1) ((((hi - lo).toNat : Nat) : Int) - ((0 : Nat) : Int)) 1
    rw [e1, e2]
    exact Heap.get?_push_size _ rfl
def iRng2L (ta : TA) : TI := fun σ H R => ta σ H fun vs H1 => ∃ i j : Int, vs = [.int i, .int j] ∧ R (Itr i (j - i).toNat) H1
theorem pi_range2L {a b : PySem.Expr} {ta : TA} {p pos : Pos} (hg : Gl X "range") (hm : X.mg "range" = none) (ha : PA X [a, b] ta) (hs : starEach [a, b] X.env = [(false, eval a X.env), (false, eval b X.env)] := by rfl) (hs2 : starEach [b] X.env = [(false, eval b X.env)] := by rfl) :
    PI X tg (.Call (.Name "range" p) [a, b] [] pos) (iRng2L ta) := by
  refine ⟨fun pins s σ H R I h => ?_⟩
  refine Call_ (ld_blt I hg hm boot_range (PyProof.Rows.callWith_type1 (thn (ha.run pos pins s σ H _ I h) fun us s1 ⟨vs, H1, I1, r1, q1⟩ => ?_) (by rw [hs, hs2]) (by rw [hs2]; rfl)))
  obtain ⟨i, j, e, q⟩ := q1
  subst e
  cases r1 with
  | cons r rr =>
    cases rr with
    | cons r' rr =>
      cases rr
      obtain ⟨t, rfl⟩ := r
      obtain ⟨t', rfl⟩ := r'
      exact call_range_2 (range_itL I1 q)
end

/-! ### rows: a list or a tuple -/
def Row (K : PySem.W.Frag) (H : Hp) (a : Addr) (xs : List V) : Prop := SqL K H a xs ∨ SqT K H a xs
theorem sameT {K : PySem.W.Frag} {H H' : Hp} {a : Addr} {xs : List V} (e : Same H H') (h : SqT K H a xs) : SqT K H' a xs := by
  rcases h with (h | ⟨o, h⟩) | h
  · exact .inl (.inl (e _ _ h))
  · exact .inl (.inr ⟨o, e _ _ h⟩)
  · exact .inr h
theorem Row.same {K : PySem.W.Frag} {H H' : Hp} {a : Addr} {xs : List V} (e : Same H H') (h : Row K H a xs) : Row K H' a xs := h.imp e.seq (sameT e)
theorem same_upd {H : Hp} {p : Addr} {o : HO} (h : H p = none) : Same H (upd H p o) := fun b x e => by
  rw [upd_ne (ne_of_none e h)]
  exact e
section
variable {X : Cx} {pos : Pos}
theorem call_lenA : CallR X (.builtin "len") (fun xs H Q => (∃ p ys, xs = [.ref p] ∧ (SqL X.K H p ys ∨ SqT X.K H p ys) ∧ Q (.int ys.length) H) ∨ (∃ z, xs = [.str z] ∧ z.length ≤ sizeLine ∧ Q (.int z.length) H)) := CallR.or call_len_seq call_len_str
def iSeq (K : PySem.W.Frag) (tl : TE) : TI := fun σ H R => iList K tl σ H R ∨ iTup K tl σ H R
theorem pi_seq {tg l : PySem.Expr} {tl : TE} (hl : PE X l tl) : PI X tg l (iSeq X.K tl) := pi_or (pi_list hl) (pi_tup hl)
def gSeq (K : PySem.W.Frag) (n : Nat) (t : TGs) : TG := fun v σ H Q => gTup K n t v σ H Q ∨ gUnl K n t v σ H Q
theorem pg_seq {es : List PySem.Expr} {k : Nat} {t : TGs} {n : Nat} (hc : X.calm = true) (h : PGs X es t)
    (hn : (assignEach es X.env).length = n := by rfl) (hst : (assignEach es X.env).findIdx? (·.1) = none := by rfl) : PG X (.Tuple es k pos) (gSeq X.K n t) := pg_or (pg_tup hc h hn hst) (pg_unl hc h hn hst)
end
theorem gSeq.row {K : PySem.W.Frag} {n : Nat} {t : TGs} {a : Addr} {xs : List V} {σ : L2.St} {H : Hp} {Q : L2.St → Hp → Prop} (h : Row K H a xs) (hl : xs.length = n) (q : t xs σ H Q) : gSeq K n t (.ref a) σ H Q := by
  rcases h with h | h
  · exact .inr ⟨a, xs, rfl, h, hl, q⟩
  · exact .inl ⟨a, xs, rfl, h, hl, q⟩
/-- for x in (a row that stands in slot i) -/
theorem for_row {K : PySem.W.Frag} {a : Addr} {xs : List V} {g : TG} {tb : TS} {D : Ends} {σ : L2.St} {Hb H : Hp} {j : Nat} (hv : σ[j]? = some (some (.ref a))) (hr : Row K Hb a xs) (hb : Same Hb H) (Pv : Nat → L2.St → Hp → Prop) (h0 : Pv 0 σ H) (hl : ∀ i σ H', i ≤ xs.length → Pv i σ H' → Same Hb H')
    (hs : ∀ i x σ H, xs[i]? = some x → Pv i σ H → g x σ H fun σ2 H2 => tb { D with nx := Pv (i + 1), ct := Pv (i + 1), bk := D.nx } σ2 H2) (hd : ∀ σ H, Pv xs.length σ H → D.nx σ H) :
    tFor (iSeq K (tVar j)) g tb D σ H := by
  rcases hr with hr | hr
  · exact .inl ⟨_, hv, a, rfl, ⟨_, hb.seq hr⟩, for_list (K := K) (a := a) (xs := xs) Pv h0 (fun i σ H' hi p => (hl i σ H' hi p).seq hr) hs hd⟩
  · exact .inr ⟨_, hv, a, rfl, ⟨_, sameT hb hr⟩, for_tup (K := K) (a := a) (xs := xs) Pv h0 (fun i σ H' hi p => sameT (hl i σ H' hi p) hr) hs hd⟩
/-! ### the same rules with the written part named, for use within comprehensions -/
section
variable {X : Cx} {pos : Pos} (K : PySem.W.Frag)
def rLenA (K : PySem.W.Frag) : List V → Hp → VK → Prop := fun xs H Q => (∃ p ys, xs = [.ref p] ∧ (SqL K H p ys ∨ SqT K H p ys) ∧ Q (.int ys.length) H) ∨ (∃ z, xs = [.str z] ∧ z.length ≤ sizeLine ∧ Q (.int z.length) H)
theorem ix_seqK (hK : X.K = K := by rfl) : IxR X (rIx K) := hK ▸ ix_seq
theorem call_lenK (hK : X.K = K := by rfl) : CallR X (.builtin "len") (rLenA K) := hK ▸ call_lenA
theorem pg_tupK {es : List PySem.Expr} {k : Nat} {t : TGs} {n : Nat} (hc : X.calm = true) (h : PGs X es t)
    (hn : (assignEach es X.env).length = n := by rfl) (hst : (assignEach es X.env).findIdx? (·.1) = none := by rfl) (hK : X.K = K := by rfl) : PG X (.Tuple es k pos) (gTup K n t) := hK ▸ pg_tup hc h hn hst
theorem pg_seqK {es : List PySem.Expr} {k : Nat} {t : TGs} {n : Nat} (hc : X.calm = true) (h : PGs X es t)
    (hn : (assignEach es X.env).length = n := by rfl) (hst : (assignEach es X.env).findIdx? (·.1) = none := by rfl) (hK : X.K = K := by rfl) : PG X (.Tuple es k pos) (gSeq K n t) := hK ▸ pg_seq hc h hn hst
end

/-! ### loops and comprehensions, folded -/
def ForGo (J : It) (g : TG) (tb : TS) (D : Ends) (σ : L2.St) (H : Hp) : Prop := ∃ W : Nat → Nat → L2.St → Hp → Prop, (∃ m, W 0 m σ H) ∧ ∀ i m σ H, W i m σ H →
  (J.stop i H ∧ D.nx σ H) ∨ (J.go i H ∧ ∃ N : L2.St → Hp → Prop, (∀ σ' H', N σ' H' → ∃ m', m' < m ∧ W (i + 1) m' σ' H') ∧ ∀ x H', J.yld i H x H' → g x σ H' fun σ2 H2 => tb { D with nx := N, ct := N, bk := D.nx } σ2 H2)
def LcGo (J : It) (g : TG) (tt : TT) (te : TE) (vs : List Nat) (σ : L2.St) (H1 : Hp) (D : Addr) (Q : VK) : Prop := ∃ W : Nat → Nat → Hp → Prop, (∃ m, W 0 m (upd H1 D (.lst []))) ∧ ∀ i m H, W i m H →
  (J.stop i H ∧ Q (.ref D) H) ∨ (J.go i H ∧ ∃ Nx : Hp → Prop, (∀ H', Nx H' → ∃ m', m' < m ∧ W (i + 1) m' H') ∧ ∀ x H', J.yld i H x H' → g x (wipe σ vs) H' fun σ2 H2 => wipe σ2 vs = wipe σ vs ∧ tt σ2 H2 fun b H3 =>
    if b = true then te σ2 H3 fun y H4 => ∃ acc, H4 D = some (.lst acc) ∧ acc.length < sizeLine ∧ Nx (upd H4 D (.lst (acc ++ [y]))) else Nx H3)
section
variable {K : PySem.W.Frag} {ta : TA} {tl : TE} {g : TG} {tb : TS} {D : Ends} {σ : L2.St} {H : Hp} {tt : TT} {te : TE} {vs : List Nat} {Q : VK}
theorem fr_rng1 (h : ta σ H fun us H1 => ∃ j : Int, us = [.int j] ∧ -(2 ^ 62) ≤ j ∧ j < 2 ^ 62 ∧ ForGo (Itr 0 j.toNat) g tb D σ H1) : tFor (iRng1 ta) g tb D σ H := h
theorem fr_rng2 (h : ta σ H fun us H1 => ∃ i j : Int, us = [.int i, .int j] ∧ (-(2 ^ 62) ≤ i ∧ i < 2 ^ 62 ∧ -(2 ^ 62) ≤ j ∧ j < 2 ^ 62) ∧ ForGo (Itr i (j - i).toNat) g tb D σ H1) : tFor (iRng2 ta) g tb D σ H := h
theorem fr_rng2L (h : ta σ H fun us H1 => ∃ i j : Int, us = [.int i, .int j] ∧ ForGo (Itr i (j - i).toNat) g tb D σ H1) : tFor (iRng2L ta) g tb D σ H := h
theorem fr_list (h : tl σ H fun x H1 => ∃ a, x = .ref a ∧ (∃ xs, SqL K H1 a xs) ∧ ForGo (Itl K a) g tb D σ H1) : tFor (iList K tl) g tb D σ H := h
theorem fr_str (h : tl σ H fun v H1 => ∃ x, v = .str x ∧ ForGo (Its x) g tb D σ H1) : tFor (iStr tl) g tb D σ H := h
theorem lc_rng1 (h : ta σ H fun us H1 => ∃ j : Int, us = [.int j] ∧ -(2 ^ 62) ≤ j ∧ j < 2 ^ 62 ∧ ∀ D, H1 D = none → LcGo (Itr 0 j.toNat) g tt te vs σ H1 D Q) : tLc (iRng1 ta) g tt te vs σ H Q := h
theorem lc_rng2 (h : ta σ H fun us H1 => ∃ i j : Int, us = [.int i, .int j] ∧ (-(2 ^ 62) ≤ i ∧ i < 2 ^ 62 ∧ -(2 ^ 62) ≤ j ∧ j < 2 ^ 62) ∧ ∀ D, H1 D = none → LcGo (Itr i (j - i).toNat) g tt te vs σ H1 D Q) : tLc (iRng2 ta) g tt te vs σ H Q := h
theorem lc_rng2L (h : ta σ H fun us H1 => ∃ i j : Int, us = [.int i, .int j] ∧ ∀ D, H1 D = none → LcGo (Itr i (j - i).toNat) g tt te vs σ H1 D Q) : tLc (iRng2L ta) g tt te vs σ H Q := h
theorem lc_lst (h : tl σ H fun x H1 => ∃ a, x = .ref a ∧ (∃ xs, SqL K H1 a xs) ∧ ∀ D, H1 D = none → LcGo (Itl K a) g tt te vs σ H1 D Q) : tLc (iList K tl) g tt te vs σ H Q := h
theorem lc_str (h : tl σ H fun v H1 => ∃ x, v = .str x ∧ ∀ D, H1 D = none → LcGo (Its x) g tt te vs σ H1 D Q) : tLc (iStr tl) g tt te vs σ H Q := h

theorem ForGo.range {lo : Int} {n : Nat} (Pv : Nat → L2.St → Hp → Prop) (h0 : Pv 0 σ H)
    (hs : ∀ i σ H, i < n → Pv i σ H → g (.int (lo + i)) σ H fun σ2 H2 => tb { D with nx := Pv (i + 1), ct := Pv (i + 1), bk := D.nx } σ2 H2) (hd : ∀ σ H, Pv n σ H → D.nx σ H) : ForGo (Itr lo n) g tb D σ H := for_range Pv h0 hs hd
theorem ForGo.list {a : Addr} {xs : List V} (Pv : Nat → L2.St → Hp → Prop) (h0 : Pv 0 σ H) (hl : ∀ i σ H, i ≤ xs.length → Pv i σ H → SqL K H a xs)
    (hs : ∀ i x σ H, xs[i]? = some x → Pv i σ H → g x σ H fun σ2 H2 => tb { D with nx := Pv (i + 1), ct := Pv (i + 1), bk := D.nx } σ2 H2) (hd : ∀ σ H, Pv xs.length σ H → D.nx σ H) : ForGo (Itl K a) g tb D σ H := for_list Pv h0 hl hs hd
theorem LcGo.range {lo : Int} {n : Nat} {D : Addr} (Pv : Nat → Hp → Prop) (h0 : Pv 0 (upd H D (.lst [])))
    (hs : ∀ i H, i < n → Pv i H → g (.int (lo + i)) (wipe σ vs) H fun σ2 H2 => wipe σ2 vs = wipe σ vs ∧ tt σ2 H2 fun b H3 =>
      if b = true then te σ2 H3 fun y H4 => ∃ acc, H4 D = some (.lst acc) ∧ acc.length < sizeLine ∧ Pv (i + 1) (upd H4 D (.lst (acc ++ [y]))) else Pv (i + 1) H3) (hd : ∀ H, Pv n H → Q (.ref D) H) : LcGo (Itr lo n) g tt te vs σ H D Q := L2.lc_range (lo := lo) (n := n) Pv h0 hs hd
theorem LcGo.list {a D : Addr} {xs : List V} (Pv : Nat → Hp → Prop) (h0 : Pv 0 (upd H D (.lst []))) (hl : ∀ i H, i ≤ xs.length → Pv i H → SqL K H a xs)
    (hs : ∀ i x H, xs[i]? = some x → Pv i H → g x (wipe σ vs) H fun σ2 H2 => wipe σ2 vs = wipe σ vs ∧ tt σ2 H2 fun b H3 =>
      if b = true then te σ2 H3 fun y H4 => ∃ acc, H4 D = some (.lst acc) ∧ acc.length < sizeLine ∧ Pv (i + 1) (upd H4 D (.lst (acc ++ [y]))) else Pv (i + 1) H3) (hd : ∀ H, Pv xs.length H → Q (.ref D) H) : LcGo (Itl K a) g tt te vs σ H D Q := L2.lc_list Pv h0 hl hs hd
theorem LcGo.str {z : Str} {D : Addr} (Pv : Nat → Hp → Prop) (h0 : Pv 0 (upd H D (.lst [])))
    (hs : ∀ i c H, z.cps[i]? = some c → Pv i H → g (.str ⟨#[c]⟩) (wipe σ vs) H fun σ2 H2 => wipe σ2 vs = wipe σ vs ∧ tt σ2 H2 fun b H3 =>
      if b = true then te σ2 H3 fun y H4 => ∃ acc, H4 D = some (.lst acc) ∧ acc.length < sizeLine ∧ Pv (i + 1) (upd H4 D (.lst (acc ++ [y]))) else Pv (i + 1) H3) (hd : ∀ H, Pv z.cps.size H → Q (.ref D) H) : LcGo (Its z) g tt te vs σ H D Q := by
  refine ⟨fun i m H => m = z.cps.size - i ∧ i ≤ z.cps.size ∧ Pv i H, ⟨z.cps.size, by simp, Nat.zero_le _, h0⟩, ?_⟩
  rintro i m H ⟨rfl, hi, p⟩
  by_cases hlt : i < z.cps.size
  · refine .inr ⟨hlt, Pv (i + 1), fun H' p' => ⟨z.cps.size - (i + 1), by omega, rfl, hlt, p'⟩, fun x H' y => ?_⟩
    obtain ⟨e, c, hc, rfl⟩ := y
    subst e
    exact hs i c _ hc p
  · have e : i = z.cps.size := by omega
    subst e
    exact .inl ⟨Nat.le_refl _, hd H p⟩
end
end BK

namespace BK
open PySem PySem.Spec PyProof.Rows L2

/-! ## del xs[a:] -/
theorem keep_from {α : Type} (a : Nat) : ∀ (xs : List α) (j n : Nat), xs.length + j ≤ n → (xs.zipIdx j).filterMap (fun (p : α × Nat) => if (decide (a ≤ p.2) && decide (p.2 < n)) = true then none else some p.1) = xs.take (a - j)
  | [], j, n, _ => by simp
  | x :: r, j, n, h => by
    rw [List.zipIdx_cons, List.filterMap_cons]
    have hn : j < n := by simp at h; omega
    have ih := keep_from a r (j + 1) n (by simp at h; omega)
    by_cases hj : a ≤ j
    · simp only [hj, hn, decide_true, Bool.and_self, if_true]
      rw [ih, show a - j = 0 by omega, show a - (j + 1) = 0 by omega]
      simp
    · simp only [hj, decide_false, Bool.false_and, Bool.false_eq_true, if_false]
      rw [ih, show a - j = (a - (j + 1)) + 1 by omega, List.take_succ_cons]
theorem pick_take {sel : Nat → Bool} {a n : Nat} (hs : ∀ k, sel k = (decide (a ≤ k) && decide (k < n))) (its : List Value) (hn : its.length = n) :
    (its.toArray.toList.zipIdx.filterMap fun (x : Value × Nat) => if sel x.2 = true then none else some x.1).toArray = (its.take a).toArray := by
  have e : (fun (x : Value × Nat) => if sel x.2 = true then none else some x.1) = fun (x : Value × Nat) => if (decide (a ≤ x.2) && decide (x.2 < n)) = true then none else some x.1 := funext fun x => by rw [hs]
  rw [e, show its.toArray.toList = its by simp, keep_from a its 0 n (by omega), Nat.sub_zero]
section
variable {prog : Program} {w : World} {A : Around} {E : Value → Shared → Prop} {s : Shared}
set_option maxRecDepth 100000 in
/-- a list's slice without end and step, deleted -/
theorem delItem_from {l sl : Addr} {its : List Value} {n : Nat} {vl : Value} {lo : Option Int} {Q : Unit → Shared → Prop}
    (e : s.heap.get? l = some { cls := .type "list", data := .seq its.toArray n })
    (hs : s.heap.IsSliceOf sl vl .none .none) (pl : IsPart vl lo) (hsz : its.length ≤ sizeLine)
    (h : ∀ f : Array Value → Array Value, f its.toArray = (its.take (HT.sIx its.length 0 lo)).toArray → Q () { s with heap := s.heap.update l (Obj.mapSeq f) }) :
    wpAny (model prog w) A (delItem (.ref l) (.ref sl)) Q E s := by
  have hl : s.heap.IsList l its.toArray := PySem.IsL.isList e
  obtain ⟨os, hos, hcs, hds⟩ := id hs
  have hTs : s.TypeIs (.ref sl) "slice" := ⟨os, hos, hcs⟩
  have hstep : ¬ ((rawPart none == rawInt 0) = true) := Bool.false_ne_true
  refine wpAny_delItem_slot hl.typeIs (by decide) PySem.F.slot_list_delitem ?_
  refine wpAny_call_entry PySem.F.slot_list_delitem hl.typeIs PySem.F.entry_list_delitem ?_ (PySem.F.args_list_delitem_2 _ _)
  refine wpAny_bind (m := slotArgs "__delitem__" 1 _) (wpAny_pure ?_)
  refine wpAny_bind (m := Builtin.List.listSubscript? (.ref sl)) ?_
  unfold Builtin.List.listSubscript?
  refine wpAny_bind (wpAny_specialOf hTs slice_no_index ?_)
  simp only [Option.isNone_none, if_true]
  refine wpAny_pure ?_
  show wpAny _ _ (typeOf (.ref sl) >>= _) _ _ s
  refine wpAny_bind (wpAny_typeOf hTs ?_)
  first
    | rw [if_neg (by decide)]
    | refine PySem.W.KFB.if_not (by decide) ?_
  rw [listSliceParts_eq]
  refine wpAny_bind (wpAny_bind (wpAny_field hos hds (x := .none) rfl (wpAny_bind (wpAny_listPart .none ?_))))
  rw [if_neg hstep]
  refine wpAny_bind (wpAny_field hos hds (x := vl) rfl (wpAny_bind (wpAny_listPart pl ?_)))
  refine wpAny_bind (wpAny_field hos hds (x := .none) rfl (wpAny_bind (wpAny_listPart .none (wpAny_pure ?_))))
  refine wpAny_bind (m := Builtin.List.listItems (.ref l)) ?_
  unfold Builtin.List.listItems
  refine wpAny_bind (wpAny_seqItems e rfl (wpAny_pure ?_))
  have hb : sliceBounds lo none none its.toArray.size = (((HT.sIx its.length 0 lo : Nat) : Int), (((its.length : Nat) : Int), (1 : Int))) := by
    obtain ⟨h1, h2, h3⟩ := slice_bounds lo none its.toArray.size
    have e1 : its.toArray.size = its.length := List.size_toArray
    rw [e1] at h1 h2 h3 ⊢
    have h2' : (sliceBounds lo none none its.length).2.1 = ((its.length : Nat) : Int) := by rw [h2]; rfl
    exact Prod.ext h1 (Prod.ext h2' h3)
  refine wpAny_bind (wpAny_of_eq ((sliceIndices_raw lo none none its.toArray.size (by simp)).trans (congrArg (pure : Int × Int × Int → Sem (Int × Int × Int)) hb)) ?_)
  refine wpAny_bind (m := rule "list.__delitem__.slice") (wpAny_rule ?_)
  have pk := fun (sel : Nat → Bool) hs => pick_take (sel := sel) (a := HT.sIx its.length 0 lo) (n := its.length) hs its rfl
  refine wpAny_bind (m := updateSeq l _) (wpAny_updateSeq (hz := by rw [List.size_toArray]; exact hsz) (_hz' := ?_) e rfl ?_)
  rotate_left
  · refine Nat.le_trans (Nat.le_of_eq (congrArg Array.size (pk _ fun k => ?_))) ?_
    · show (decide (((HT.sIx its.length 0 lo : Nat) : Int) ≤ (k : Int)) && decide ((k : Int) < ((its.length : Nat) : Int)) && (((k : Int) - ((HT.sIx its.length 0 lo : Nat) : Int)) % 1 == 0)) = _
      rw [Int.emod_one]
      simp
    · rw [List.size_toArray, List.length_take]
      omega
  refine wpAny_bind (wpAny_letGo ?_)
  refine wpAny_pure ⟨_, rfl, h _ (pk _ fun k => ?_)⟩
  show (decide (((HT.sIx its.length 0 lo : Nat) : Int) ≤ (k : Int)) && decide ((k : Int) < ((its.length : Nat) : Int)) && (((k : Int) - ((HT.sIx its.length 0 lo : Nat) : Int)) % 1 == 0)) = _
  rw [Int.emod_one]
  simp
end
section
variable {X : Cx}
theorem del_slice {pins : List (Addr × Obj)} {s : Shared} {σ : L2.St} {H : Hp} {l sl : Addr} {xs : List V} {vl : Value} {lo : Option Int} {Q : Unit → Shared → Prop} (I : L2.Inv X pins σ H s)
    (hH : H l = some (.lst xs)) (hs : s.heap.IsSliceOf sl vl .none .none) (pl : IsPart vl lo)
    (h : ∀ s', L2.Inv X pins σ (upd H l (.lst (xs.take (HT.sIx xs.length 0 lo)))) s' → Q () s') :
    wpAny (model X.prog X.w) X.A (delItem (.ref l) (.ref sl)) Q X.xe s := by
  obtain ⟨z, its, n, r, hl, e⟩ := I.lstM hH
  refine delItem_from e hs pl (by omega) fun f hf => h _ ?_
  refine I.lset (its' := its.take (HT.sIx its.length 0 lo)) (t' := s.toks) hH e hf (by rw [← hl]; exact r.take _) ?_
  rw [List.length_take]
  omega
/-- del xs[a:] of a list -/
def tDelS (to : TE) (tl : TO) : TS := fun D σ H => to σ H fun x H1 => tl σ H1 fun lo H2 => ∃ (l : Addr) (xs : List V), x = .ref l ∧ H2 l = some (.lst xs) ∧ D.nx σ (upd H2 l (.lst (xs.take (HT.sIx xs.length 0 lo))))
theorem ps_delS {o : Expr} {lo : Option Expr} {to : TE} {tl : TO} {p2 tpos pos : Pos} (ho : PE X o to) (hl : PO X lo tl) : PS X (.Delete [.Subscript o (.Slice lo none none p2) tpos] pos) (tDelS to tl) := by
  refine ⟨fun pins s σ H D I h => ?_⟩
  refine wpAny_Delete (wpAny_deleteEach_cons (wpAny_delete_Subscript (thn (ho.run pins s σ H _ I h) fun u s1 ⟨x, H1, I1, rx, q1⟩ => ?_)))
  refine wpAny_Slice (thn (hl.run pins s1 σ H1 _ I1 q1) fun vl s2 ⟨l, H2, I2, pl, q2⟩ => ?_)
  rw [evalPart_none]
  refine wpAny_pure ?_
  refine wpAny_pure ?_
  obtain ⟨b, xs, ex, hH, q2⟩ := q2
  subst ex
  cases (show u = Value.ref b from rx)
  have I4 : L2.Inv X pins σ H2 { s2 with heap := s2.heap.push { cls := .type "slice", data := .fields #[vl, .none, .none] } } := I2.kept (t' := s2.toks) fun b ob q => Heap.get?_push_of_some _ q
  exact del_slice I4 hH (Heap.IsSliceOf.new ..) pl fun s3 I3 => wpAny_deleteEach_nil ⟨σ, _, I3, q2⟩
end
end BK

namespace BK
open PySem PySem.Spec PyProof.Rows L2 Builtin Builtin.Str

/-! ### texts as lists of codes -/
def tx (w : List Nat) : Str := ⟨w.toArray⟩
theorem tx_cps (w : List Nat) : (tx w).cps.toList = w := by unfold tx; simp
theorem tx_len (w : List Nat) : (tx w).length = w.length := by unfold tx; simp [Str.length]
theorem tx_inj {a b : List Nat} (h : tx a = tx b) : a = b := by
  have := congrArg (fun z : Str => z.cps.toList) h
  simpa [tx_cps] using this
theorem tx_of (z : Str) : tx z.cps.toList = z := Str.ext' (by unfold tx; simp)
theorem tx_ext {z : Str} {w : List Nat} (h : z.cps.toList = w) : z = tx w := by rw [← h, tx_of]
theorem tx_app (a b : List Nat) : tx a ++ tx b = tx (a ++ b) := tx_ext (by rw [Str.cps_append, Array.toList_append, tx_cps, tx_cps])
theorem tx_eq (a b : List Nat) : (V.str (tx a) = V.str (tx b)) ↔ a = b := ⟨fun h => tx_inj (V.str.inj h), fun h => by rw [h]⟩
theorem tx_one (c : Nat) : tx [c] = ⟨#[c]⟩ := rfl
theorem tx_nil : tx [] = "" := rfl

theorem cut_nn (w : List Nat) (i j : Nat) : cutS (tx w) (some (i : Int)) (some (j : Int)) = tx ((w.drop i).take (j - i)) := by
  refine tx_ext ?_
  unfold cutS
  rw [HT.sIx_nat, HT.sIx_nat, tx_cps, tx_len, List.toList_toArray]
  by_cases hi : i ≤ w.length
  · rw [Nat.min_eq_left hi]
    by_cases hj : j ≤ w.length
    · rw [Nat.min_eq_left hj]
    · rw [Nat.min_eq_right (by omega), List.take_of_length_le (by rw [List.length_drop]; omega), List.take_of_length_le (by rw [List.length_drop]; omega)]
  · rw [Nat.min_eq_right (show w.length ≤ i by omega), List.drop_length, List.drop_eq_nil_of_le (by omega), List.take_nil, List.take_nil]
theorem cut_n_ (w : List Nat) (i : Nat) : cutS (tx w) (some (i : Int)) none = tx (w.drop i) := by
  refine tx_ext ?_
  unfold cutS
  rw [HT.sIx_nat, HT.sIx_none, tx_cps, tx_len, List.toList_toArray]
  by_cases hi : i ≤ w.length
  · rw [Nat.min_eq_left hi, List.take_of_length_le (by rw [List.length_drop]; omega)]
  · rw [Nat.min_eq_right (by omega), List.drop_length, List.drop_eq_nil_of_le (by omega), List.take_nil]
theorem cut__n (w : List Nat) (j : Nat) : cutS (tx w) none (some (j : Int)) = tx (w.take j) := by
  refine tx_ext ?_
  unfold cutS
  rw [HT.sIx_nat, HT.sIx_none, tx_cps, tx_len, List.toList_toArray, List.drop_zero, Nat.sub_zero]
  by_cases hj : j ≤ w.length
  · rw [Nat.min_eq_left hj]
  · rw [Nat.min_eq_right (by omega), List.take_of_length_le (Nat.le_refl _), List.take_of_length_le (by omega)]

theorem foldl_app (l : List (List Nat)) : ∀ acc : Array Nat, ((l.map List.toArray).foldl (· ++ ·) acc).toList = acc.toList ++ l.flatten := by
  induction l with
  | nil => intro acc; simp
  | cons a l ih =>
    intro acc
    rw [List.map_cons, List.foldl_cons, ih, Array.toList_append, List.toList_toArray, List.flatten_cons, List.append_assoc]
theorem mul_tx (w : List Nat) (n : Nat) : Txt.mul (tx w) (n : Int) = tx (List.replicate n w).flatten := by
  refine tx_ext ?_
  unfold Txt.mul
  split
  · have : n = 0 := by omega
    subst this
    rfl
  · split
    · rename_i h1 h2
      rw [Bool.or_eq_true] at h2
      rcases h2 with h2 | h2
      · have : n = 1 := by have := eq_of_beq h2; omega
        subst this
        rw [tx_cps]
        simp
      · have : w = [] := by
          have := eq_of_beq h2
          rw [tx_len] at this
          exact List.eq_nil_of_length_eq_zero this
        subst this
        rw [tx_cps]
        simp
    · rw [Int.toNat_natCast]
      have e : List.replicate n (tx w).cps = (List.replicate n w).map List.toArray := by rw [List.map_replicate]; rfl
      show (List.foldl (· ++ ·) #[] (List.replicate n (tx w).cps)).toList = _
      rw [e, foldl_app]
      simp
theorem mul_ok {w : List Nat} {n : Nat} (L N : Nat) (h : w.length ≤ L) (hn : n ≤ N) (hN : N ≤ 16777216) (hL : L * N ≤ 16777216) : MulOk (tx w) (n : Int) :=
  mulOk_of L N (by rw [tx_len]; exact h) (by omega) (by omega) hN hL

theorem join_go : ∀ (ws : List (List Nat)) (acc : Array Nat), ((ws.map tx).foldl (fun acc p => acc ++ (tx []).cps ++ p.cps) acc).toList = acc.toList ++ ws.flatten
  | [], acc => by simp
  | a :: l, acc => by
    rw [List.map_cons, List.foldl_cons, join_go l, Array.toList_append, Array.toList_append, tx_cps, List.flatten_cons, tx_cps, List.append_nil, List.append_assoc]
theorem join_tx (ws : List (List Nat)) : Txt.join (tx []) (ws.map tx) = tx ws.flatten := by
  refine tx_ext ?_
  show (glued (tx []) (ws.map tx)).cps.toList = _
  unfold glued
  cases ws with
  | nil => rfl
  | cons a l =>
    show (((l.map tx)).foldl (fun acc p => acc ++ (tx []).cps ++ p.cps) (tx a).cps).toList = _
    rw [join_go, tx_cps, List.flatten_cons]

/-! ### how many of one sign -/
theorem sub_one (w : List Nat) (c i : Nat) : (i + (tx [c]).length ≤ (tx w).length ∧ subAt (tx w) (tx [c]) i = true) ↔ w[i]? = some c := by
  have h := StrLaws.subAt_one (tx w) c i
  rw [tx_cps] at h
  exact h
theorem occ_run (w : List Nat) (c : Nat) : ∀ (n i : Nat) (st : Array Nat × Nat), st.2 ≤ i → st.1.size ≤ i → i ≤ w.length →
    (forIn (List.range' i n) st (StrLaws.occBody (tx w) (tx [c]) (tx w).length ((tx w).length + 1))).run.1.size = st.1.size + ((w.drop i).take n).count c
  | 0, i, st, h1, h2, h3 => by simp
  | n + 1, i, st, h1, h2, h3 => by
    rw [List.range'_succ, List.forIn_cons]
    unfold StrLaws.occBody
    have hs := sub_one w c i
    by_cases hc : w[i]? = some c
    · have hq := hs.mpr hc
      have hlt : i < w.length := (List.getElem?_eq_some_iff.mp hc).1
      rw [if_pos ⟨⟨⟨by rw [tx_len]; omega, h1⟩, hq.1⟩, hq.2⟩]
      have ih := occ_run w c n (i + 1) (st.1.push i, i + (tx [c]).length) (by rw [tx_len]; exact Nat.le_refl _) (by rw [Array.size_push]; omega) hlt
      refine ih.trans ?_
      rw [Array.size_push, List.drop_eq_getElem_cons hlt, List.take_succ_cons, List.count_cons]
      have e : w[i] = c := (List.getElem?_eq_some_iff.mp hc).2
      rw [e, beq_self_eq_true, if_pos rfl]
      omega
    · rw [if_neg (fun z => hc (hs.mp ⟨z.1.2, z.2⟩))]
      by_cases hlt : i < w.length
      · have ih := occ_run w c n (i + 1) (st.1, st.2) (by show st.2 ≤ i + 1; omega) (by show st.1.size ≤ i + 1; omega) hlt
        refine ih.trans ?_
        rw [List.drop_eq_getElem_cons hlt, List.take_succ_cons, List.count_cons]
        have e : w[i] ≠ c := fun z => hc (by rw [List.getElem?_eq_getElem hlt, z])
        rw [beq_eq_false_iff_ne.mpr e, if_neg Bool.false_ne_true, Nat.add_zero]
        all_goals rfl
      · have e0 : ∀ (m j : Nat) (st : Array Nat × Nat), w.length ≤ j → (forIn (List.range' j m) st (StrLaws.occBody (tx w) (tx [c]) (tx w).length ((tx w).length + 1))).run.1.size = st.1.size := by
          intro m
          induction m with
          | zero => intro j st _; rfl
          | succ m ih =>
            intro j st hj
            rw [List.range'_succ, List.forIn_cons]
            unfold StrLaws.occBody
            rw [if_neg (fun z => by have := (sub_one w c j).mp ⟨z.1.2, z.2⟩; rw [List.getElem?_eq_none hj] at this; cases this)]
            exact ih (j + 1) (st.1, st.2) (by omega)
        refine (e0 n (i + 1) (st.1, st.2) (by omega)).trans ?_
        rw [List.drop_eq_nil_of_le (by omega), List.take_nil, List.count_nil, Nat.add_zero]
theorem count_tx (w : List Nat) (c : Nat) : Txt.count (tx w) (tx [c]) = (w.count c : Nat) := by
  unfold Txt.count
  rw [StrLaws.occ_eq, Array.length_toList]
  have h := occ_run w c ((tx w).length + 1 - 0) 0 (#[], 0) (Nat.le_refl _) (Nat.le_refl _) (Nat.zero_le _)
  rw [h, List.drop_zero, List.take_of_length_le (by rw [tx_len]; omega)]
  simp

/-! ### strip of signs -/
theorem takeWhile_all {p : Nat → Bool} : ∀ {l : List Nat}, l.all p = true → l.takeWhile p = l
  | [], _ => rfl
  | a :: l, h => by
    rw [List.all_cons, Bool.and_eq_true] at h
    rw [List.takeWhile_cons, if_pos h.1, takeWhile_all h.2]
theorem takeWhile_len {p : Nat → Bool} : ∀ (l : List Nat), l.all p = false → ∃ x, l[(l.takeWhile p).length]? = some x ∧ p x = false
  | [], h => by simp at h
  | a :: l, h => by
    rw [List.takeWhile_cons]
    by_cases ha : p a = true
    · rw [List.all_cons, ha, Bool.true_and] at h
      rw [if_pos ha]
      obtain ⟨x, h1, h2⟩ := takeWhile_len l h
      exact ⟨x, by rw [List.length_cons, List.getElem?_cons_succ]; exact h1, h2⟩
    · rw [if_neg ha]
      exact ⟨a, rfl, Bool.eq_false_iff.mpr ha⟩
theorem strip_iff (w y : List Nat) : (Txt.stripChars (tx w) (tx y) = tx []) ↔ w.all (y.contains ·) = true := by
  have hp : ∀ c, (tx y).cps.contains c = y.contains c := fun c => by unfold tx; simp
  have hp' : (tx y).cps.contains = fun c => y.contains c := funext hp
  unfold Txt.stripChars Txt.stripBy
  rw [hp']
  have hlo : stripLo (fun c => y.contains c) true (tx w) = (w.takeWhile fun c => y.contains c).length := by
    unfold stripLo
    rw [if_pos rfl, tx_cps]
  cases hall : w.all (y.contains ·) with
  | true =>
    have e := takeWhile_all (p := fun c => y.contains c) hall
    rw [e] at hlo
    refine ⟨fun _ => rfl, fun _ => ?_⟩
    by_cases hs : stripSame (fun c => y.contains c) true true (tx w) = true
    · rw [if_pos hs]
      unfold stripSame at hs
      rw [Bool.and_eq_true] at hs
      rw [hlo] at hs
      have : w.length = 0 := eq_of_beq hs.1
      rw [List.eq_nil_of_length_eq_zero this]
    · rw [if_neg hs]
      refine tx_ext ?_
      unfold stripped
      rw [hlo, StrLaws.strSub_toList, tx_cps, List.drop_length, List.take_nil]
  | false =>
    refine ⟨fun h => ?_, fun h => by cases h⟩
    exfalso
    obtain ⟨x, hx, hpx⟩ := takeWhile_len (p := fun c => y.contains c) w hall
    by_cases hs : stripSame (fun c => y.contains c) true true (tx w) = true
    · rw [if_pos hs] at h
      have : w = [] := tx_inj h
      subst this
      simp at hall
    · rw [if_neg hs] at h
      have h2 := congrArg (fun z : Str => z.cps.toList) h
      unfold stripped at h2
      simp only [StrLaws.strSub_toList, tx_cps, hlo] at h2
      have hlt : (w.takeWhile fun c => y.contains c).length < w.length := (List.getElem?_eq_some_iff.mp hx).1
      -- the right end lies behind x
      have hhi : (w.takeWhile fun c => y.contains c).length < stripHi (fun c => y.contains c) true (tx w) (w.takeWhile fun c => y.contains c).length := by
        unfold stripHi
        rw [if_pos rfl, tx_cps, tx_len]
        have hne : ((w.drop (w.takeWhile fun c => y.contains c).length).reverse).all (fun c => y.contains c) = false := by
          rw [List.all_reverse, List.drop_eq_getElem_cons hlt, List.all_cons]
          have e : w[(w.takeWhile fun c => y.contains c).length] = x := (List.getElem?_eq_some_iff.mp hx).2
          rw [e, hpx, Bool.false_and]
        obtain ⟨z, hz, _⟩ := takeWhile_len (p := fun c => y.contains c) _ hne
        have hl2 := (List.getElem?_eq_some_iff.mp hz).1
        rw [List.length_reverse, List.length_drop] at hl2
        omega
      have h3 := congrArg List.length h2
      rw [List.length_take, List.length_drop] at h3
      have hz : ([] : List Nat).length = 0 := rfl
      have hk : 0 < stripHi (fun c => y.contains c) true (tx w) (w.takeWhile fun c => y.contains c).length - (w.takeWhile fun c => y.contains c).length := by omega
      have h4 : (tx ([] : List Nat)).cps.toList.length = 0 := rfl
      have h5 : min (stripHi (fun c => y.contains c) true (tx w) (w.takeWhile fun c => y.contains c).length - (w.takeWhile fun c => y.contains c).length) (w.length - (w.takeWhile fun c => y.contains c).length) = 0 := h3
      omega
end BK

namespace BK
open PySem PySem.Spec PyProof.Rows L2

/-! ## list(text) -/
section
variable {X : Cx}
theorem signs_vals {x : Str} {acc : Array Value} (h : ItemsOf (SignAt x) acc x.cps.size) : Vals (x.cps.toList.map fun c => V.str (tx [c])) acc.toList := by
  refine vals_of_at ?_ fun j y u h1 h2 => ?_
  · rw [List.length_map, Array.length_toList, Array.length_toList, h.1]
  · obtain ⟨c, t, e1, e2⟩ := h.2 j u (by rw [← Array.getElem?_toList]; exact h2)
    rw [List.getElem?_map, Array.getElem?_toList, e1] at h1
    cases h1
    exact ⟨t, e2⟩
theorem call_listS (hc : X.calm = true) : CallR X (.type "list") (fun xs H Q => ∃ x : Str, xs = [.str x] ∧ x.cps.size ≤ sizeLine ∧ ∀ p, H p = none → Q (.ref p) (upd H p (.lst (x.cps.toList.map fun c => V.str (tx [c]))))) := by
  intro pins s σ H xs us Q I r h
  obtain ⟨x, e, hz, q⟩ := h
  subst e
  obtain ⟨u, eu, rx⟩ := vals1 r
  subst eu
  obtain ⟨t, rfl⟩ := rx
  refine call_list_str (I.ok.hd hc) x t (fun h' tk acc c' hk hD hacc => ?_) hz
  refine ⟨.ref s.heap.objs.size, upd H s.heap.objs.size (.lst (x.cps.toList.map fun c => V.str (tx [c]))), I.laid (t' := tk) hk (Nat.le_refl _)
    (show ObjOk X.prog X.w _ _ _ (.lst (x.cps.toList.map fun c => V.str (tx [c]))) from ⟨by rw [List.length_map, Array.length_toList]; exact hz, acc.toList, c', signs_vals hacc, by rw [Array.toArray_toList]; exact hD⟩), rfl, q _ (I.hok.fresh (Nat.le_refl _))⟩
end

/-! ## a dict of the module: texts by texts -/
def dtx (e : DictEntry) : Option (Str × Str) := match e.key, e.val with
  | .str x _, .str y _ => some (x, y)
  | _, _ => none
structure SDict (K : PySem.W.Frag) (w : World) (mg : Str → Option Value) (x : Str) (ps : List (Str × Str)) : Type where
  d : Addr
  es : Array DictEntry
  n : Nat
  g : mg x = some (.ref d)
  k : KDict K w d es n
  e : es.toList.map dtx = ps.map some
theorem dtx_find (z : Str) : ∀ (es : List DictEntry) (ps : List (Str × Str)), es.map dtx = ps.map some →
    (ps.lookup z = none → es.find? (·.key.isStr z) = none ∧ es.any (·.refKey) = false) ∧ (∀ y, ps.lookup z = some y → ∃ e t, es.find? (·.key.isStr z) = some e ∧ e.val = .str y t)
  | [], [], _ => ⟨fun _ => ⟨rfl, rfl⟩, fun y h => by cases h⟩
  | [], _ :: _, h => by cases h
  | _ :: _, [], h => by cases h
  | e :: es, p :: ps, h => by
    obtain ⟨h1, h2⟩ := List.cons.inj h
    have ih := dtx_find z es ps h2
    obtain ⟨a, b⟩ := p
    unfold dtx at h1
    split at h1
    · rename_i x t y t2 k1 k2
      have e3 := Option.some.inj h1
      obtain ⟨rfl, rfl⟩ := Prod.mk.inj e3
      have hk : e.key.isStr z = (x == z) := by rw [k1]; rfl
      have hr : e.refKey = false := by unfold DictEntry.refKey; rw [k1]
      by_cases hz : z = x
      · subst hz
        refine ⟨fun hh => ?_, fun y' hy => ?_⟩
        · rw [List.lookup_cons_self] at hh
          cases hh
        · rw [List.lookup_cons_self] at hy
          cases hy
          refine ⟨e, t2, ?_, k2⟩
          rw [List.find?_cons, hk]
          simp
      · have hb : (z == x) = false := beq_eq_false_iff_ne.mpr hz
        have hb2 : (x == z) = false := beq_eq_false_iff_ne.mpr fun q => hz q.symm
        refine ⟨fun hh => ?_, fun y' hy => ?_⟩
        · rw [List.lookup_cons, hb] at hh
          obtain ⟨i1, i2⟩ := ih.1 hh
          rw [List.find?_cons, hk, hb2, List.any_cons, hr]
          exact ⟨i1, i2⟩
        · rw [List.lookup_cons, hb] at hy
          obtain ⟨e', t', i1, i2⟩ := ih.2 y' hy
          refine ⟨e', t', ?_, i2⟩
          rw [List.find?_cons, hk, hb2]
          exact i1
    · cases h1
theorem SDict.none {K : PySem.W.Frag} {w : World} {mg : Str → Option Value} {x : Str} {ps : List (Str × Str)} (D : SDict K w mg x ps) {z : Str} (h : ps.lookup z = .none) : PySem.W.nsIn K D.d z = some .none := by
  obtain ⟨h1, h2⟩ := (dtx_find z _ _ D.e).1 h
  unfold PySem.W.nsIn
  rw [D.k.at_]
  dsimp only
  rw [h1]
  dsimp only
  rw [h2]
  rfl
theorem SDict.some {K : PySem.W.Frag} {w : World} {mg : Str → Option Value} {x : Str} {ps : List (Str × Str)} (D : SDict K w mg x ps) {z y : Str} (h : ps.lookup z = .some y) : ∃ t, PySem.W.nsIn K D.d z = some (.some (.str y t)) := by
  obtain ⟨e, t, h1, h2⟩ := (dtx_find z _ _ D.e).2 y h
  refine ⟨t, ?_⟩
  unfold PySem.W.nsIn
  rw [D.k.at_]
  dsimp only
  rw [h1]
  dsimp only
  rw [h2]
section
variable {X : Cx} {x : Str} {ps : List (Str × Str)}
theorem pe_sd {pos : Pos} (D : SDict X.K X.w X.mg x ps) (hg : Gl X x) (hd : (x == ("__debug__" : Str)) = false) : PE X (.Name x pos) (tC (.ref D.d)) := pe_glob hg D.g rfl hd
theorem op_in_sd (D : SDict X.K X.w X.mg x ps) : OpR X (compareOp .In) (fun a b H Q => ∃ z : Str, a = .str z ∧ b = .ref D.d ∧ Q (.bl (ps.lookup z).isSome) H) := by
  intro pins s σ H a b v u Q I rx ry h
  obtain ⟨z, e1, e2, q⟩ := h
  cases hl : ps.lookup z with
  | none =>
    rw [hl] at q
    exact op_in_kd D.k pins s σ H a b v u Q I rx ry ⟨z, .none, e1, e2, D.none hl, q⟩
  | some y =>
    rw [hl] at q
    obtain ⟨t, e⟩ := D.some hl
    exact op_in_kd D.k pins s σ H a b v u Q I rx ry ⟨z, _, e1, e2, e, q⟩
def oV : Option Str → V
  | none => .non
  | some y => .str y
def tSGet (d : Addr) (ps : List (Str × Str)) (to te : TE) : TE := fun σ H Q => to σ H fun x H1 => x = .ref d ∧ te σ H1 fun y H2 => ∃ z : Str, y = .str z ∧ Q (oV (ps.lookup z)) H2
theorem pe_sget {o e : Expr} {to te : TE} {apos cpos : Pos} (D : SDict X.K X.w X.mg x ps) (ho : PE X o to) (he : PE X e te) (m : M1 X o "get" apos e cpos) : PE X (.Call (.Attribute o "get" apos) [e] [] cpos) (tSGet D.d ps to te) := by
  refine ⟨fun pins s σ H Q I h => ?_⟩
  refine wpAny_Call_method m.base m.few m.line PySem.F.plainAttrs_dict PySem.F.slot_dict_get PySem.F.type_dict_get (thn (ho.run pins s σ H _ I h) fun u s1 ⟨x, H1, I1, rx, ex, q1⟩ => ?_)
  subst ex
  obtain rfl : u = Value.ref D.d := rx
  have hm0 := PySem.W.mapOf_K (prog := X.prog) (w := X.w) I1.kIn D.k.at_ D.k.lit
  refine ⟨hm0.typeIs, fun b e => ?_, ?_⟩
  · cases e
    exact ⟨_, I1.kIn _ _ D.k.at_, rfl⟩
  rw [m.trees]
  refine wpAny_dict_get1 (knd := PySem.strKind X.prog X.w) D.k.low (thn (he.run pins s1 σ H1 _ I1 q1) fun iv s2 ⟨y, H2, I2, ry, z, ey, q2⟩ => ?_)
  subst ey
  obtain ⟨t, rfl⟩ := ry
  refine ⟨z, _, PySem.strKind_is X.prog X.w z t, PySem.W.mapOf_K (prog := X.prog) (w := X.w) I2.kIn D.k.at_ D.k.lit, ?_⟩
  cases hl : ps.lookup z with
  | none =>
    rw [PySem.W.find_K D.k.at_ (D.none hl)]
    rw [hl] at q2
    exact ⟨.non, H2, I2.tok _, rfl, q2⟩
  | some y =>
    obtain ⟨t2, e⟩ := D.some hl
    rw [PySem.W.find_K D.k.at_ e]
    rw [hl] at q2
    exact ⟨.str y, H2, I2.tok _, ⟨t2, rfl⟩, q2⟩
end
theorem SDict.at {K : PySem.W.Frag} {w : World} {mg : Str → Option Value} {x : Str} {ps : List (Str × Str)} (D : SDict K w mg x ps) {z y : Str} (h : ps.lookup z = .some y) : KDct K w D.d z (.str y) := by
  obtain ⟨t, e⟩ := D.some h
  exact ⟨D.es, D.n, _, D.k.at_, D.k.lit, e, t, rfl⟩
/-! ## a dict of the module: texts by numbers -/
def dti (e : DictEntry) : Option (Str × Int) := match e.key, e.val with
  | .str x _, .int y _ => some (x, y)
  | _, _ => none
structure IDict (K : PySem.W.Frag) (w : World) (mg : Str → Option Value) (x : Str) (ps : List (Str × Int)) : Type where
  d : Addr
  es : Array DictEntry
  n : Nat
  g : mg x = some (.ref d)
  k : KDict K w d es n
  e : es.toList.map dti = ps.map some
theorem dti_find (z : Str) (y : Int) : ∀ (es : List DictEntry) (ps : List (Str × Int)), es.map dti = ps.map some → ps.lookup z = some y → ∃ e t, es.find? (·.key.isStr z) = some e ∧ e.val = .int y t
  | [], [], _, h => by cases h
  | [], _ :: _, h, _ => by cases h
  | _ :: _, [], h, _ => by cases h
  | e :: es, p :: ps, h, hy => by
    obtain ⟨h1, h2⟩ := List.cons.inj h
    obtain ⟨a, b⟩ := p
    unfold dti at h1
    split at h1
    · rename_i x t y' t2 k1 k2
      obtain ⟨rfl, rfl⟩ := Prod.mk.inj (Option.some.inj h1)
      have hk : e.key.isStr z = (x == z) := by rw [k1]; rfl
      by_cases hz : z = x
      · subst hz
        rw [List.lookup_cons_self] at hy
        cases hy
        refine ⟨e, t2, ?_, k2⟩
        rw [List.find?_cons, hk]
        simp
      · have hb : (z == x) = false := beq_eq_false_iff_ne.mpr hz
        have hb2 : (x == z) = false := beq_eq_false_iff_ne.mpr fun q => hz q.symm
        rw [List.lookup_cons, hb] at hy
        obtain ⟨e', t', i1, i2⟩ := dti_find z y es ps h2 hy
        refine ⟨e', t', ?_, i2⟩
        rw [List.find?_cons, hk, hb2]
        exact i1
    · cases h1
theorem IDict.at {K : PySem.W.Frag} {w : World} {mg : Str → Option Value} {x : Str} {ps : List (Str × Int)} (D : IDict K w mg x ps) {z : Str} {y : Int} (h : ps.lookup z = .some y) : KDct K w D.d z (.int y) := by
  obtain ⟨e, t, h1, h2⟩ := dti_find z y _ _ D.e h
  refine ⟨D.es, D.n, .int y t, D.k.at_, D.k.lit, ?_, t, rfl⟩
  unfold PySem.W.nsIn
  rw [D.k.at_]
  dsimp only
  rw [h1]
  dsimp only
  rw [h2]
theorem pe_id {X : Cx} {x : Str} {ps : List (Str × Int)} {pos : Pos} (D : IDict X.K X.w X.mg x ps) (hg : Gl X x) (hd : (x == ("__debug__" : Str)) = false) : PE X (.Name x pos) (tC (.ref D.d)) := pe_glob hg D.g rfl hd
end BK

namespace BK
open PySem PySem.Spec PyProof.Rows L2

/-! ### a word again and again -/
def rep (w : List Nat) (n : Nat) : List Nat := (List.replicate n w).flatten
theorem rep_zero (w : List Nat) : rep w 0 = [] := rfl
theorem rep_succ (w : List Nat) (n : Nat) : rep w (n + 1) = w ++ rep w n := by unfold rep; rw [List.replicate_succ, List.flatten_cons]
theorem rep_len (w : List Nat) : ∀ n, (rep w n).length = n * w.length
  | 0 => by rw [rep_zero]; simp
  | n + 1 => by rw [rep_succ, List.length_append, rep_len w n, Nat.add_mul, Nat.one_mul, Nat.add_comm]
theorem rep_add (w : List Nat) (m : Nat) : ∀ n, rep w (n + m) = rep w n ++ rep w m
  | 0 => by rw [Nat.zero_add, rep_zero, List.nil_append]
  | n + 1 => by rw [show n + 1 + m = (n + m) + 1 by omega, rep_succ, rep_add w m n, rep_succ, List.append_assoc]
theorem rep_get (w : List Nat) : ∀ (n i : Nat), i < n * w.length → (rep w n)[i]? = w[i % w.length]?
  | 0, i, h => by simp at h
  | n + 1, i, h => by
    rw [rep_succ]
    by_cases hi : i < w.length
    · rw [List.getElem?_append_left hi, Nat.mod_eq_of_lt hi]
    · have hn : w.length ≤ i := by omega
      have h2 : i - w.length < n * w.length := by rw [Nat.add_mul, Nat.one_mul] at h; omega
      rw [List.getElem?_append_right hn, rep_get w n _ h2, Nat.mod_eq_sub_mod hn]
theorem rep_count (w : List Nat) (c : Nat) : ∀ n, (rep w n).count c = n * w.count c
  | 0 => by rw [rep_zero]; simp
  | n + 1 => by rw [rep_succ, List.count_append, rep_count w c n, Nat.add_mul, Nat.one_mul, Nat.add_comm]
theorem rep_take {w : List Nat} (hw : w ≠ []) {n m : Nat} (h : m ≤ n * w.length) : (rep w n).take m = rep w (m / w.length) ++ w.take (m % w.length) := by
  have hp : 0 < w.length := List.length_pos_iff.mpr hw
  have hq : m / w.length ≤ n := by
    have := Nat.div_le_div_right (c := w.length) h
    rwa [Nat.mul_div_cancel _ hp] at this
  have e : n = m / w.length + (n - m / w.length) := by omega
  rw [e, rep_add]
  have hm : m = m / w.length * w.length + m % w.length := by rw [Nat.mul_comm]; exact (Nat.div_add_mod m w.length).symm
  rw [List.take_append, rep_len]
  have h1 : List.take m (rep w (m / w.length)) = rep w (m / w.length) := List.take_of_length_le (by rw [rep_len]; exact Nat.div_mul_le_self _ _)
  rw [h1]
  have h2 : m - m / w.length * w.length = m % w.length := by
    omega
  rw [h2]
  congr 1
  have hlt := Nat.mod_lt m hp
  cases hk : n - m / w.length with
  | zero =>
    have h3 : m ≤ m / w.length * w.length := by
      have e3 : n = m / w.length := by omega
      have h4 := h
      rw [e3] at h4
      exact h4
    have h5 : m % w.length = 0 := by omega
    rw [h5, rep_zero, List.take_zero, List.take_zero]
  | succ k => rw [rep_succ, List.take_append_of_le_length (by omega)]
theorem rep_take_count {w : List Nat} (hw : w ≠ []) {n m : Nat} (c : Nat) (h : m ≤ n * w.length) : ((rep w n).take m).count c = w.count c * (m / w.length) + (w.take (m % w.length)).count c := by
  rw [rep_take hw h, List.count_append, rep_count, Nat.mul_comm]

/-! ### texts by pieces -/
abbrev Pcs := List (List Nat × Nat)
def spell (ps : Pcs) : List Nat := (ps.map fun p => rep p.1 p.2).flatten
theorem spell_nil : spell [] = [] := rfl
theorem spell_cons (p : List Nat × Nat) (ps : Pcs) : spell (p :: ps) = rep p.1 p.2 ++ spell ps := by unfold spell; rw [List.map_cons, List.flatten_cons]
theorem spell_app (ps qs : Pcs) : spell (ps ++ qs) = spell ps ++ spell qs := by unfold spell; rw [List.map_append, List.flatten_append]
def size (ps : Pcs) : Nat := (ps.map fun p => p.1.length * p.2).sum
theorem spell_len (ps : Pcs) : (spell ps).length = size ps := by
  induction ps with
  | nil => rfl
  | cons p ps ih => rw [spell_cons, List.length_append, ih, rep_len]; unfold size; rw [List.map_cons, List.sum_cons, Nat.mul_comm]
theorem size_cons (p : List Nat × Nat) (ps : Pcs) : size (p :: ps) = p.1.length * p.2 + size ps := rfl
theorem size_take_succ (ps : Pcs) : ∀ {i : Nat} {p}, ps[i]? = some p → size (ps.take (i + 1)) = size (ps.take i) + p.1.length * p.2 := by
  induction ps with
  | nil => intro i p h; simp at h
  | cons q ps ih =>
    intro i p h
    cases i with
    | zero =>
      have e : q = p := by simpa using h
      subst e
      simp [size]
    | succ i =>
      have := ih (i := i) (p := p) (by simpa using h)
      rw [List.take_succ_cons, size_cons, this, List.take_succ_cons, size_cons, Nat.add_assoc]
theorem size_take_le (ps : Pcs) (i : Nat) : size (ps.take i) ≤ size ps := by
  induction ps generalizing i with
  | nil => simp
  | cons q ps ih =>
    cases i with
    | zero => simp [size]
    | succ i => rw [List.take_succ_cons, size_cons, size_cons]; have := ih i; omega

/-- small letters -/
def alpha : List Nat := [97, 98, 99, 100, 101, 102, 103, 104, 105, 106, 107, 108, 109, 110, 111, 112, 113, 114, 115, 116, 117, 118, 119, 120, 121, 122]
theorem tx_alpha : tx alpha = ("abcdefghijklmnopqrstuvwxyz" : Str) := by decide +kernel
def Plain (w : List Nat) : Prop := w.all (alpha.contains ·) = true
def Word (w : List Nat) : Prop := Plain w ∧ w ≠ [] ∧ w.length ≤ 60
structure Good (ps : Pcs) : Prop where
  few : ps.length ≤ 40
  ok : ∀ p ∈ ps, Word p.1 ∧ 1 ≤ p.2
  all : size ps ≤ 10 ^ 30

/-! ### things -/
inductive Dt where
  | non | bl (b : Bool) | int (i : Int) | str (w : List Nat) | lst (xs : List Dt) | tup (xs : List Dt) | dic
mutual
def At (K : PySem.W.Frag) (H : Hp) : V → Dt → Prop
  | v, .non => v = .non
  | v, .bl b => v = .bl b
  | v, .int i => v = .int i
  | v, .str w => v = .str (tx w) ∧ w.length ≤ 1000000
  | v, .lst ds => ∃ a xs, v = .ref a ∧ SqL K H a xs ∧ Ats K H xs ds
  | v, .tup ds => ∃ a xs, v = .ref a ∧ SqT K H a xs ∧ Ats K H xs ds
  | v, .dic => ∃ a, v = .ref a ∧ H a = some (.dK [])
def Ats (K : PySem.W.Frag) (H : Hp) : List V → List Dt → Prop
  | vs, [] => vs = []
  | vs, d :: ds => ∃ v us, vs = v :: us ∧ At K H v d ∧ Ats K H us ds
end
section
variable {K : PySem.W.Frag} {H H' : Hp}
mutual
theorem At.same (e : Same H H') : ∀ (d : Dt) (v : V), At K H v d → At K H' v d
  | .non, v, h => by unfold At at h ⊢; exact h
  | .bl _, v, h => by unfold At at h ⊢; exact h
  | .int _, v, h => by unfold At at h ⊢; exact h
  | .str _, v, h => by unfold At at h ⊢; exact h
  | .lst ds, v, h => by
    unfold At at h ⊢
    obtain ⟨a, xs, rfl, h1, h2⟩ := h
    exact ⟨a, xs, rfl, e.seq h1, Ats.same e ds xs h2⟩
  | .tup ds, v, h => by
    unfold At at h ⊢
    obtain ⟨a, xs, rfl, h1, h2⟩ := h
    exact ⟨a, xs, rfl, sameT e h1, Ats.same e ds xs h2⟩
  | .dic, v, h => by
    unfold At at h ⊢
    obtain ⟨a, rfl, h1⟩ := h
    exact ⟨a, rfl, e _ _ h1⟩
theorem Ats.same (e : Same H H') : ∀ (ds : List Dt) (vs : List V), Ats K H vs ds → Ats K H' vs ds
  | [], vs, h => by unfold Ats at h ⊢; exact h
  | d :: ds, vs, h => by
    unfold Ats at h ⊢
    obtain ⟨v, us, rfl, h1, h2⟩ := h
    exact ⟨v, us, rfl, At.same e d v h1, Ats.same e ds us h2⟩
end
theorem Ats.len : ∀ {ds : List Dt} {vs : List V}, Ats K H vs ds → vs.length = ds.length
  | [], vs, h => by unfold Ats at h; subst h; rfl
  | d :: ds, vs, h => by
    unfold Ats at h
    obtain ⟨v, us, rfl, _, h2⟩ := h
    rw [List.length_cons, List.length_cons, h2.len]
theorem Ats.get : ∀ {ds : List Dt} {vs : List V} {i : Nat} {d : Dt}, Ats K H vs ds → ds[i]? = some d → ∃ v, vs[i]? = some v ∧ At K H v d
  | [], vs, i, d, h, e => by simp at e
  | c :: ds, vs, i, d, h, e => by
    unfold Ats at h
    obtain ⟨v, us, rfl, h1, h2⟩ := h
    cases i with
    | zero =>
      have : c = d := by simpa using e
      subst this
      exact ⟨v, rfl, h1⟩
    | succ i => exact h2.get (by simpa using e)
end
/-- the type's name -/
def Dt.ty : Dt → String
  | .non => "NoneType"
  | .bl _ => "bool"
  | .int _ => "int"
  | .str _ => "str"
  | .lst _ => "list"
  | .tup _ => "tuple"
  | .dic => "dict"
theorem ty_known (d : Dt) : d.ty ∈ knownTy := by cases d <;> simp [Dt.ty, knownTy]
theorem At.ty {K : PySem.W.Frag} {H : Hp} {v : V} {d : Dt} (h : At K H v d) : TyB K H v d.ty := by
  cases d with
  | non => unfold At at h; subst h; exact .non
  | bl b => unfold At at h; subst h; exact .bl b
  | int i => unfold At at h; subst h; exact .int i
  | str w => unfold At at h; obtain ⟨rfl, _⟩ := h; exact .str _
  | lst ds => unfold At at h; obtain ⟨a, xs, rfl, h1, _⟩ := h; exact .lst h1
  | tup ds => unfold At at h; obtain ⟨a, xs, rfl, h1, _⟩ := h; exact .tup h1
  | dic => unfold At at h; obtain ⟨a, rfl, h1⟩ := h; exact .dK h1
/-- what is_row, is_whole, .. tell -/
def isRow : Dt → Bool
  | .lst _ => true
  | .tup _ => true
  | _ => false
def Dt.items : Dt → List Dt
  | .lst ds => ds
  | .tup ds => ds
  | _ => []
def isWhole (d : Dt) (lo : Int) : Bool := match d with
  | .int i => decide (lo ≤ i)
  | _ => false
def isWithin (d : Dt) (lo hi : Int) : Bool := match d with
  | .int i => decide (lo ≤ i) && decide (i ≤ hi)
  | _ => false
def isPlain : Dt → Bool
  | .str w => w.all (alpha.contains ·)
  | _ => false
def isLetter : Dt → Bool
  | .str w => w.all (alpha.contains ·) && decide (w.length = 1)
  | _ => false
def isClip : Dt → Bool
  | .str w => w.all (alpha.contains ·) && decide (w.length ≤ 60)
  | _ => false
def isWord : Dt → Bool
  | .str w => w.all (alpha.contains ·) && decide (w.length ≤ 60) && decide (w ≠ [])
  | _ => false
def isPiece (d : Dt) : Bool := isRow d && (match d.items with
  | [a, b] => isWord a && isWhole b 1
  | _ => false)
def pieceSize (d : Dt) : Int := match d.items with
  | [.str w, .int n] => (w.length : Int) * n
  | _ => 0
def isText (d : Dt) : Bool := isRow d && decide (d.items.length ≤ 40) && d.items.all isPiece && decide ((d.items.map pieceSize).sum ≤ 10 ^ 30)
/-- a text's pieces -/
def pcOf (d : Dt) : List Nat × Nat := match d.items with
  | [.str w, .int n] => (w, n.toNat)
  | _ => ([], 0)
def pcs (d : Dt) : Pcs := d.items.map pcOf
theorem isPiece_of {d : Dt} (h : isPiece d = true) : ∃ w n, d.items = [.str w, .int n] ∧ isRow d = true ∧ Word w ∧ 1 ≤ n := by
  unfold isPiece at h
  rw [Bool.and_eq_true] at h
  obtain ⟨h1, h2⟩ := h
  split at h2
  · rename_i a b e
    rw [Bool.and_eq_true] at h2
    obtain ⟨h3, h4⟩ := h2
    cases a with
    | str w =>
      cases b with
      | int n =>
        unfold isWord at h3
        unfold isWhole at h4
        simp only [Bool.and_eq_true, decide_eq_true_eq] at h3 h4
        exact ⟨w, n, e, h1, ⟨h3.1.1, h3.2, h3.1.2⟩, h4⟩
      | _ => simp [isWhole] at h4
    | _ => simp [isWord] at h3
  · cases h2
theorem sum_size : ∀ {ds : List Dt}, ds.all isPiece = true → (ds.map pieceSize).sum = (size (ds.map pcOf) : Int)
  | [], _ => rfl
  | d :: ds, h => by
    rw [List.all_cons, Bool.and_eq_true] at h
    obtain ⟨w, n, e, _, _, hn⟩ := isPiece_of h.1
    rw [List.map_cons, List.sum_cons, sum_size h.2, List.map_cons, size_cons]
    have e1 : pieceSize d = (w.length : Int) * n := by unfold pieceSize; rw [e]
    have e2 : pcOf d = (w, n.toNat) := by unfold pcOf; rw [e]
    rw [e1, e2, Int.natCast_add, Int.natCast_mul, Int.toNat_of_nonneg (by omega)]
theorem Good.of {d : Dt} (h : isText d = true) : Good (pcs d) := by
  unfold isText at h
  simp only [Bool.and_eq_true, decide_eq_true_eq] at h
  obtain ⟨⟨⟨h1, h2⟩, h3⟩, h4⟩ := h
  refine ⟨by unfold pcs; rw [List.length_map]; exact h2, fun p hp => ?_, ?_⟩
  · unfold pcs at hp
    obtain ⟨e, he, rfl⟩ := List.mem_map.mp hp
    obtain ⟨w, n, e1, _, hw, hn⟩ := isPiece_of (List.all_eq_true.mp h3 e he)
    have e2 : pcOf e = (w, n.toNat) := by unfold pcOf; rw [e1]
    rw [e2]
    exact ⟨hw, by show 1 ≤ n.toNat; omega⟩
  · rw [sum_size h3] at h4
    unfold pcs
    have : ((10 ^ 30 : Nat) : Int) = (10 ^ 30 : Int) := by decide
    omega

/-! ### a text in the heap, by its pieces -/
def PieceAt (K : PySem.W.Frag) (H : Hp) (v : V) (p : List Nat × Nat) : Prop := ∃ a, v = .ref a ∧ Row K H a [.str (tx p.1), .int p.2]
def TextAt (K : PySem.W.Frag) (H : Hp) (v : V) (ps : Pcs) : Prop := ∃ a xs, v = .ref a ∧ Row K H a xs ∧ Paired (PieceAt K H) xs ps
theorem prd_same {α β : Type} {R S : α → β → Prop} (f : ∀ a b, R a b → S a b) : ∀ {xs : List α} {ys : List β}, Paired R xs ys → Paired S xs ys
  | _, _, .nil => .nil
  | _, _, .cons h t => .cons (f _ _ h) (prd_same f t)
theorem PieceAt.same {K : PySem.W.Frag} {H H' : Hp} {v : V} {p} (e : Same H H') (h : PieceAt K H v p) : PieceAt K H' v p := by
  obtain ⟨a, rfl, h⟩ := h
  exact ⟨a, rfl, h.same e⟩
theorem TextAt.same {K : PySem.W.Frag} {H H' : Hp} {v : V} {ps} (e : Same H H') (h : TextAt K H v ps) : TextAt K H' v ps := by
  obtain ⟨a, xs, rfl, h1, h2⟩ := h
  exact ⟨a, xs, rfl, h1.same e, prd_same (fun _ _ => PieceAt.same e) h2⟩
theorem at_row {K : PySem.W.Frag} {H : Hp} {v : V} {d : Dt} (h : At K H v d) (hr : isRow d = true) : ∃ a xs, v = .ref a ∧ Row K H a xs ∧ Ats K H xs d.items := by
  cases d with
  | lst ds => unfold At at h; obtain ⟨a, xs, rfl, h1, h2⟩ := h; exact ⟨a, xs, rfl, .inl h1, h2⟩
  | tup ds => unfold At at h; obtain ⟨a, xs, rfl, h1, h2⟩ := h; exact ⟨a, xs, rfl, .inr h1, h2⟩
  | _ => simp [isRow] at hr
theorem pieceAt_of {K : PySem.W.Frag} {H : Hp} {v : V} {d : Dt} (h : At K H v d) (hp : isPiece d = true) : PieceAt K H v (pcOf d) := by
  obtain ⟨w, n, e, hr, hw, hn⟩ := isPiece_of hp
  obtain ⟨a, xs, rfl, h1, h2⟩ := at_row h hr
  rw [e] at h2
  unfold Ats at h2
  obtain ⟨v1, us, rfl, g1, h2⟩ := h2
  unfold Ats at h2
  obtain ⟨v2, us, rfl, g2, h2⟩ := h2
  unfold Ats at h2
  subst h2
  unfold At at g1 g2
  obtain ⟨rfl, _⟩ := g1
  subst g2
  have e2 : pcOf d = (w, n.toNat) := by unfold pcOf; rw [e]
  rw [e2]
  refine ⟨a, rfl, ?_⟩
  show Row K H a [.str (tx w), .int (n.toNat : Int)]
  rw [Int.toNat_of_nonneg (by omega)]
  exact h1
theorem textAt_of {K : PySem.W.Frag} {H : Hp} {v : V} {d : Dt} (h : At K H v d) (ht : isText d = true) : TextAt K H v (pcs d) := by
  unfold isText at ht
  simp only [Bool.and_eq_true, decide_eq_true_eq] at ht
  obtain ⟨⟨⟨h1, h2⟩, h3⟩, h4⟩ := ht
  obtain ⟨a, xs, rfl, g1, g2⟩ := at_row h h1
  refine ⟨a, xs, rfl, g1, ?_⟩
  unfold pcs
  generalize hd : d.items = ds at g2 h3
  clear hd h4 h1 h2 g1 h
  induction ds generalizing xs with
  | nil => unfold Ats at g2; subst g2; exact .nil
  | cons c ds ih =>
    unfold Ats at g2
    obtain ⟨v, us, rfl, k1, k2⟩ := g2
    rw [List.all_cons, Bool.and_eq_true] at h3
    exact .cons (pieceAt_of k1 h3.1) (ih us k2 h3.2)
theorem prd_at {α β : Type} {R : α → β → Prop} {xs : List α} {ys : List β} (h : Paired R xs ys) : ∀ {i : Nat} {x : α}, xs[i]? = some x → ∃ y, ys[i]? = some y ∧ R x y := by
  induction h with
  | nil => intro i x e; simp at e
  | cons h t ih =>
    intro i x e
    cases i with
    | zero =>
      have := Option.some.inj e
      subst this
      exact ⟨_, rfl, h⟩
    | succ i => exact ih (by simpa using e)
theorem prd_len {α β : Type} {R : α → β → Prop} {xs : List α} {ys : List β} (h : Paired R xs ys) : xs.length = ys.length := Paired.length h

theorem at_ofA {α : Type} {xs : List α} {z : Int} {j : Nat} {v : α} (e : z = (j : Int)) (h : xs[j]? = some v) : atI xs z = some v := by
  rw [e]
  exact atI_nat h
/-! ### readings over rows -/
section
variable {K : PySem.W.Frag} {H : Hp} {a : Addr} {xs : List V}
theorem ix_row {i : Int} {x : V} {Q : VK} (h : Row K H a xs) (e : atI xs i = some x) (q : Q x H) : rIx K (.ref a) (.int i) H Q := by
  rcases h with h | h
  · exact .inl ⟨a, xs, i, x, rfl, rfl, h, e, q⟩
  · exact .inr (.inl ⟨a, xs, i, x, rfl, rfl, h, e, q⟩)
theorem ix_lst {i : Int} {x : V} {Q : VK} (h : H a = some (.lst xs)) (e : atI xs i = some x) (q : Q x H) : rIx K (.ref a) (.int i) H Q := ix_row (.inl (SqL.of h)) e q
theorem ix_tx {z : List Nat} {i : Int} {c : Nat} {Q : VK} (h : z.length ≤ 1000000) (e : atI z i = some c) (q : Q (.str (tx [c])) H) : rIx K (.str (tx z)) (.int i) H Q :=
  .inr (.inr ⟨tx z, i, c, rfl, rfl, by rw [tx_len]; exact Nat.le_trans h (by decide), by rw [tx_cps]; exact e, q⟩)
theorem len_row {Q : VK} (h : Row K H a xs) (q : Q (.int xs.length) H) : rLenA K [.ref a] H Q := .inl ⟨a, xs, rfl, h, q⟩
theorem len_tx {w : List Nat} {Q : VK} (h : w.length ≤ 1000000) (q : Q (.int w.length) H) : rLenA K [.str (tx w)] H Q :=
  .inr ⟨tx w, rfl, by rw [tx_len]; exact Nat.le_trans h (by decide), by rw [tx_len]; exact q⟩
end
theorem Ats.at {K : PySem.W.Frag} {H : Hp} : ∀ {ds : List Dt} {vs : List V} {i : Nat} {v : V}, Ats K H vs ds → vs[i]? = some v → ∃ d, ds[i]? = some d ∧ At K H v d
  | [], vs, i, v, h, e => by unfold Ats at h; subst h; simp at e
  | c :: ds, vs, i, v, h, e => by
    unfold Ats at h
    obtain ⟨x, us, rfl, h1, h2⟩ := h
    cases i with
    | zero =>
      have : x = v := by simpa using e
      subst this
      exact ⟨c, rfl, h1⟩
    | succ i => exact h2.at (by simpa using e)
theorem isum_take : ∀ {l : List Int} {i : Nat} {z : Int}, l[i]? = some z → (l.take (i + 1)).sum = (l.take i).sum + z := sum_take
theorem all_take_succ {α : Type} {p : α → Bool} {l : List α} {i : Nat} {x : α} (h : (l.take i).all p = true) (e : l[i]? = some x) (hx : p x = true) : (l.take (i + 1)).all p = true := by
  rw [List.take_add_one, e, List.all_append, h]
  simp [hx]
end BK

namespace BK
open PySem PySem.Spec PyProof.Rows L2

/-! ### stretches of a word again and again -/
def cyc (w : List Nat) (at_ many : Nat) : List Nat := ((rep w ((at_ % w.length + many) / w.length + 1)).drop (at_ % w.length)).take many
theorem cyc_get {w : List Nat} (hw : w ≠ []) (a m i : Nat) (h : i < m) : (cyc w a m)[i]? = w[(a + i) % w.length]? := by
  have hp : 0 < w.length := List.length_pos_iff.mpr hw
  unfold cyc
  rw [List.getElem?_take, if_pos h, List.getElem?_drop, rep_get]
  · rw [Nat.mod_add_mod]
  · have h1 := Nat.lt_div_mul_add (a := a % w.length + m) hp
    rw [Nat.add_mul, Nat.one_mul]
    omega
theorem drop_rep {w : List Nat} (hw : w ≠ []) {n a m : Nat} (h : a + m ≤ n * w.length) : ((rep w n).drop a).take m = cyc w a m := by
  apply List.ext_getElem?
  intro i
  by_cases hi : i < m
  · rw [cyc_get hw a m i hi, List.getElem?_take, if_pos hi, List.getElem?_drop, rep_get _ _ _ (by omega)]
  · have hp : 0 < w.length := List.length_pos_iff.mpr hw
    rw [List.getElem?_take, if_neg hi]
    unfold cyc
    rw [List.getElem?_take, if_neg hi]
theorem cyc_len {w : List Nat} (hw : w ≠ []) (a m : Nat) : (cyc w a m).length = m := by
  have hp : 0 < w.length := List.length_pos_iff.mpr hw
  unfold cyc
  rw [List.length_take, List.length_drop, rep_len]
  have h1 := Nat.lt_div_mul_add (a := a % w.length + m) hp
  rw [Nat.add_mul, Nat.one_mul]
  omega

theorem rep_mem {x : List Nat} {c : Nat} : ∀ {n : Nat}, c ∈ rep x n → c ∈ x
  | 0, h => by cases h
  | n + 1, h => by
    rw [rep_succ] at h
    rcases List.mem_append.mp h with h | h
    · exact h
    · exact rep_mem h
/-! ### spans -/
abbrev Span := Nat × Nat × List Nat
def spansOf : Nat → Pcs → List Span
  | _, [] => []
  | s, p :: ps => (s, s + p.1.length * p.2, p.1) :: spansOf (s + p.1.length * p.2) ps
theorem spansOf_len : ∀ (ps : Pcs) (s : Nat), (spansOf s ps).length = ps.length
  | [], _ => rfl
  | p :: ps, s => by unfold spansOf; rw [List.length_cons, spansOf_len ps, List.length_cons]
theorem spansOf_get : ∀ (ps : Pcs) (s i : Nat) (p), ps[i]? = some p → (spansOf s ps)[i]? = some (s + size (ps.take i), s + size (ps.take i) + p.1.length * p.2, p.1)
  | [], s, i, p, h => by simp at h
  | q :: ps, s, 0, p, h => by
    have : q = p := by simpa using h
    subst this
    simp [spansOf, size]
  | q :: ps, s, i + 1, p, h => by
    unfold spansOf
    rw [List.getElem?_cons_succ, spansOf_get ps _ i p (by simpa using h), List.take_succ_cons, size_cons]
    simp only [Nat.add_assoc]
theorem spansOf_at (ps : Pcs) {i : Nat} {x : Span} (h : (spansOf 0 ps)[i]? = some x) : ∃ p, ps[i]? = some p ∧ x = (size (ps.take i), size (ps.take i) + p.1.length * p.2, p.1) := by
  have hl := (List.getElem?_eq_some_iff.mp h).1
  rw [spansOf_len] at hl
  refine ⟨ps[i], List.getElem?_eq_getElem hl, ?_⟩
  have := spansOf_get ps 0 i ps[i] (List.getElem?_eq_getElem hl)
  rw [this] at h
  have := Option.some.inj h
  rw [← this]
  simp only [Nat.zero_add]
def SpanAt (H : Hp) (v : V) (x : Span) : Prop := ∃ a, v = .ref a ∧ H a = some (.tup [.int x.1, .int x.2.1, .str (tx x.2.2)])
def SpansAt (H : Hp) (a : Addr) (xs : List Span) : Prop := ∃ us, H a = some (.lst us) ∧ Paired (SpanAt H) us xs
theorem SpanAt.same {H H' : Hp} {v : V} {x : Span} (e : Same H H') (h : SpanAt H v x) : SpanAt H' v x := by
  obtain ⟨a, rfl, h⟩ := h
  exact ⟨a, rfl, e _ _ h⟩
theorem SpansAt.same {H H' : Hp} {a : Addr} {xs : List Span} (e : Same H H') (h : SpansAt H a xs) : SpansAt H' a xs := by
  obtain ⟨us, h1, h2⟩ := h
  exact ⟨us, e _ _ h1, prd_same (fun _ _ => SpanAt.same e) h2⟩
theorem SpanAt.upd {H : Hp} {v : V} {x : Span} {o : Addr} {us vs : List V} (ho : H o = some (.lst us)) (h : SpanAt H v x) : SpanAt (upd H o (.lst vs)) v x := by
  obtain ⟨a, rfl, h⟩ := h
  exact ⟨a, rfl, by rw [upd_ne (ne_of h ho (by intro z; cases z))]; exact h⟩
theorem prd_snoc {α β : Type} {R : α → β → Prop} {xs : List α} {ys : List β} {x : α} {y : β} (h : Paired R xs ys) (hxy : R x y) : Paired R (xs ++ [x]) (ys ++ [y]) := by
  induction h with
  | nil => exact .cons hxy .nil
  | cons a t ih => exact .cons a ih
theorem same_mut {H H' : Hp} {p : Addr} {o : HO} (e : Same H H') (h : H p = none) : Same H (upd H' p o) := fun a u ha => by
  rw [upd_ne (ne_of_none ha h)]
  exact e a u ha
/-- the spans' end -/
theorem spansOf_last {ps : Pcs} (h : ps ≠ []) : ∃ p s, ps.getLast? = some p ∧ (spansOf 0 ps).getLast? = some (s, size ps, p.1) := by
  have hp : 0 < ps.length := List.length_pos_iff.mpr h
  have e := List.getElem?_eq_getElem (l := ps) (i := ps.length - 1) (by omega)
  refine ⟨ps[ps.length - 1], size (ps.take (ps.length - 1)), by rw [List.getLast?_eq_getElem?, e], ?_⟩
  rw [List.getLast?_eq_getElem?, spansOf_len, spansOf_get ps 0 _ _ e, Nat.zero_add, ← size_take_succ ps e, show ps.length - 1 + 1 = ps.length by omega, List.take_length]

/-! ### looks, counts, so-manieths of what is spelled -/
theorem spell_take_succ {ps : Pcs} {i : Nat} {p} (h : ps[i]? = some p) : spell (ps.take (i + 1)) = spell (ps.take i) ++ rep p.1 p.2 := by
  rw [List.take_add_one, h, spell_app]
  show _ ++ spell [p] = _
  rw [spell_cons, spell_nil, List.append_nil]
theorem look_app (A B : List Nat) (p m : Nat) : ((A ++ B).drop p).take m = (A.drop p).take m ++ (B.drop (max A.length p - A.length)).take (min (A.length + B.length) (p + m) - max A.length p) := by
  rw [List.drop_append, List.take_append, List.length_drop]
  congr 1
  rw [show max A.length p - A.length = p - A.length by omega]
  by_cases h : m - (A.length - p) ≤ B.length - (p - A.length)
  · congr 1
    omega
  · rw [List.take_of_length_le (by rw [List.length_drop]; omega), List.take_of_length_le (by rw [List.length_drop]; omega)]
theorem count_app (A B : List Nat) (c m : Nat) : ((A ++ B).take m).count c = (A.take m).count c + (B.take (min (A.length + B.length) m - A.length)).count c := by
  rw [List.take_append, List.count_append]
  congr 2
  by_cases h : m - A.length ≤ B.length
  · congr 1
    omega
  · rw [List.take_of_length_le (by omega), List.take_of_length_le (by omega)]
/-- the places of a sign -/
def pos (w : List Nat) (c : Nat) : List Nat := (List.range w.length).filter fun i => w[i]? == some c
def IsNth (l : List Nat) (c k i : Nat) : Prop := l[i]? = some c ∧ (l.take i).count c = k
theorem posTo (w : List Nat) (c : Nat) : ∀ n, n ≤ w.length → ((List.range n).filter fun i => w[i]? == some c).length = (w.take n).count c ∧
    ∀ k i, ((List.range n).filter fun i => w[i]? == some c)[k]? = some i → IsNth w c k i
  | 0, _ => ⟨by simp, fun k i h => by simp at h⟩
  | n + 1, hn => by
    obtain ⟨ih1, ih2⟩ := posTo w c n (by omega)
    rw [List.range_succ, List.filter_append]
    have hg : w[n]? = some w[n] := List.getElem?_eq_getElem (by omega)
    by_cases hc : w[n] = c
    · have e : (List.filter (fun i => w[i]? == some c) [n]) = [n] := by
        rw [List.filter_cons, hg, hc]
        simp
      rw [e]
      have hcount : (w.take (n + 1)).count c = (w.take n).count c + 1 := by
        rw [List.take_add_one, hg, List.count_append, hc]
        simp
      refine ⟨by rw [List.length_append, ih1, hcount]; rfl, fun k i h => ?_⟩
      by_cases hk : k < ((List.range n).filter fun i => w[i]? == some c).length
      · rw [List.getElem?_append_left hk] at h
        exact ih2 k i h
      · rw [List.getElem?_append_right (by omega)] at h
        have hk0 : k - ((List.range n).filter fun i => w[i]? == some c).length = 0 := by
          have := (List.getElem?_eq_some_iff.mp h).1
          simp at this
          omega
        rw [hk0] at h
        have hi : n = i := by simpa using h
        subst hi
        refine ⟨by rw [hg, hc], ?_⟩
        rw [← ih1]
        omega
    · have e : (List.filter (fun i => w[i]? == some c) [n]) = [] := by
        rw [List.filter_cons, hg]
        simp [hc]
      rw [e, List.append_nil]
      have hcount : (w.take (n + 1)).count c = (w.take n).count c := by
        rw [List.take_add_one, hg, List.count_append]
        simp [hc]
      exact ⟨by rw [ih1, hcount], ih2⟩
theorem pos_len (w : List Nat) (c : Nat) : (pos w c).length = w.count c := by
  have := (posTo w c w.length (Nat.le_refl _)).1
  rw [List.take_length] at this
  exact this
theorem pos_get {w : List Nat} {c k i : Nat} (h : (pos w c)[k]? = some i) : IsNth w c k i := (posTo w c w.length (Nat.le_refl _)).2 k i h
theorem nth_rep {w : List Nat} {c q r i n : Nat} (h : IsNth w c r i) (hq : q < n) : IsNth (rep w n) c (q * w.count c + r) (q * w.length + i) := by
  have hi := (List.getElem?_eq_some_iff.mp h.1).1
  have e : n = q + ((n - q - 1) + 1) := by omega
  rw [e, rep_add, rep_succ]
  constructor
  · rw [List.getElem?_append_right (by rw [rep_len]; omega), rep_len, show q * w.length + i - q * w.length = i by omega, List.getElem?_append_left hi]
    exact h.1
  · rw [List.take_append, rep_len, List.count_append, List.take_of_length_le (by rw [rep_len]; omega), rep_count, show q * w.length + i - q * w.length = i by omega, List.take_append_of_le_length (by omega), h.2]
theorem nth_app_right {A B : List Nat} {c k i : Nat} (h : IsNth B c k i) : IsNth (A ++ B) c (A.count c + k) (A.length + i) := by
  constructor
  · rw [List.getElem?_append_right (by omega), show A.length + i - A.length = i by omega]
    exact h.1
  · rw [List.take_append, List.count_append, List.take_of_length_le (by omega), show A.length + i - A.length = i by omega, h.2]
theorem nth_app_left {A B : List Nat} {c k i : Nat} (h : IsNth A c k i) : IsNth (A ++ B) c k i := by
  have hi := (List.getElem?_eq_some_iff.mp h.1).1
  exact ⟨by rw [List.getElem?_append_left hi]; exact h.1, by rw [List.take_append_of_le_length (by omega)]; exact h.2⟩
theorem sum_le_len : ∀ (ss : List (List Nat)), (ss.map (·.length)).sum = ss.flatten.length
  | [] => rfl
  | a :: r => by rw [List.map_cons, List.sum_cons, sum_le_len r, List.flatten_cons, List.length_append]
end BK

namespace BK
open PySem PySem.Spec PyProof.Rows L2
/-! ## keys and sheets -/
inductive Ky where
  | write (w : List Nat) | paste | left (n : Nat) | right (n : Nat) | strike (n : Nat) | rub (n : Nat) | copy (n : Nat) | cut (n : Nat)
def Ky.vs : Ky → List V
  | .write w => [.str "write", .str (tx w)]
  | .paste => [.str "paste"]
  | .left n => [.str "left", .int n]
  | .right n => [.str "right", .int n]
  | .strike n => [.str "strike", .int n]
  | .rub n => [.str "rub", .int n]
  | .copy n => [.str "copy", .int n]
  | .cut n => [.str "cut", .int n]
def Ky.wt : Ky → Nat
  | .write w => w.length
  | .paste => 1
  | .left n | .right n | .strike n | .rub n | .copy n | .cut n => n
def Ky.ok : Ky → Prop
  | .write w => w ≠ [] ∧ w.length ≤ 60 ∧ Plain w
  | .paste => True
  | .left n | .right n | .strike n | .rub n | .copy n | .cut n => 1 ≤ n
def hwt (ks : List Ky) : Nat := (ks.map Ky.wt).sum
structure GoodH (ks : List Ky) : Prop where
  ok : ∀ k ∈ ks, k.ok
  wt : hwt ks ≤ 60
theorem Ky.ok.pos : ∀ {k : Ky}, k.ok → 1 ≤ k.wt
  | .write w, h => List.length_pos_iff.mpr h.1
  | .paste, _ => Nat.le_refl _
  | .left n, h | .right n, h | .strike n, h | .rub n, h | .copy n, h | .cut n, h => h
theorem hwt_cons (k : Ky) (ks : List Ky) : hwt (k :: ks) = k.wt + hwt ks := by unfold hwt; rw [List.map_cons, List.sum_cons]
theorem hwt_app (as bs : List Ky) : hwt (as ++ bs) = hwt as + hwt bs := by unfold hwt; rw [List.map_append, List.sum_append]
theorem hwt_mem {k : Ky} {ks : List Ky} (h : k ∈ ks) : k.wt ≤ hwt ks := by
  induction ks with
  | nil => cases h
  | cons a as ih =>
    rw [hwt_cons]
    rcases List.mem_cons.mp h with rfl | h
    · omega
    · have := ih h; omega
theorem len_hwt : ∀ {ks : List Ky}, (∀ k ∈ ks, k.ok) → ks.length ≤ hwt ks
  | [], _ => Nat.zero_le _
  | k :: ks, h => by
    have h1 := (h k (List.mem_cons_self ..)).pos
    have h2 := len_hwt (ks := ks) fun x hx => h x (List.mem_cons_of_mem _ hx)
    rw [hwt_cons, List.length_cons]
    omega
theorem GoodH.few {ks : List Ky} (h : GoodH ks) : ks.length ≤ 60 := Nat.le_trans (len_hwt h.ok) h.wt

/-! ### what keys do: the nearest letter of a side stands last -/
section
variable {α β : Type}
def near (s : List α) (n : Nat) : List α := (s.drop (s.length - n)).reverse
def rest (s : List α) (n : Nat) : List α := s.take (s.length - n)
theorem near_len (s : List α) (n : Nat) : (near s n).length = min n s.length := by unfold near; rw [List.length_reverse, List.length_drop]; omega
theorem rest_len (s : List α) (n : Nat) : (rest s n).length = s.length - n := by unfold rest; rw [List.length_take]; omega
theorem near_map (f : α → β) (s : List α) (n : Nat) : near (s.map f) n = (near s n).map f := by unfold near; rw [List.length_map, List.map_reverse, List.map_drop]
theorem rest_map (f : α → β) (s : List α) (n : Nat) : rest (s.map f) n = (rest s n).map f := by unfold rest; rw [List.length_map, List.map_take]
structure Sd (α : Type) where
  l : List α
  r : List α
  c : List α
def Sd.map (f : α → β) (s : Sd α) : Sd β := ⟨s.l.map f, s.r.map f, s.c.map f⟩
def step (f : Nat → α) : Ky → Sd α → Sd α
  | .write w, s => ⟨s.l ++ w.map f, s.r, s.c⟩
  | .paste, s => ⟨s.l ++ s.c, s.r, s.c⟩
  | .left n, s => ⟨rest s.l n, s.r ++ near s.l n, s.c⟩
  | .right n, s => ⟨s.l ++ near s.r n, rest s.r n, s.c⟩
  | .strike n, s => ⟨s.l, rest s.r n, s.c⟩
  | .rub n, s => ⟨rest s.l n, s.r, s.c⟩
  | .copy n, s => ⟨s.l, s.r, near s.r n⟩
  | .cut n, s => ⟨s.l, rest s.r n, near s.r n⟩
theorem step_map (f : Nat → α) (g : α → β) : ∀ (k : Ky) (s : Sd α), step (fun n => g (f n)) k (s.map g) = (step f k s).map g
  | .write w, s => by
    show Sd.mk (s.l.map g ++ w.map fun n => g (f n)) _ _ = Sd.mk ((s.l ++ w.map f).map g) _ _
    rw [List.map_append, List.map_map]
    rfl
  | .paste, s => by
    show Sd.mk (s.l.map g ++ s.c.map g) _ _ = Sd.mk ((s.l ++ s.c).map g) _ _
    rw [List.map_append]
    rfl
  | .left n, s => by
    show Sd.mk (rest (s.l.map g) n) (s.r.map g ++ near (s.l.map g) n) _ = Sd.mk ((rest s.l n).map g) ((s.r ++ near s.l n).map g) _
    rw [List.map_append, near_map, rest_map]
    rfl
  | .right n, s => by
    show Sd.mk (s.l.map g ++ near (s.r.map g) n) (rest (s.r.map g) n) _ = Sd.mk ((s.l ++ near s.r n).map g) ((rest s.r n).map g) _
    rw [List.map_append, near_map, rest_map]
    rfl
  | .strike n, s => by
    show Sd.mk _ (rest (s.r.map g) n) _ = Sd.mk _ ((rest s.r n).map g) _
    rw [rest_map]
    rfl
  | .rub n, s => by
    show Sd.mk (rest (s.l.map g) n) _ _ = Sd.mk ((rest s.l n).map g) _ _
    rw [rest_map]
    rfl
  | .copy n, s => by
    show Sd.mk _ _ (near (s.r.map g) n) = Sd.mk _ _ ((near s.r n).map g)
    rw [near_map]
    rfl
  | .cut n, s => by
    show Sd.mk _ (rest (s.r.map g) n) (near (s.r.map g) n) = Sd.mk _ ((rest s.r n).map g) ((near s.r n).map g)
    rw [near_map, rest_map]
    rfl
def Sd.size (s : Sd α) : Nat := s.l.length + s.r.length
theorem step_size (f : Nat → α) : ∀ (k : Ky) (s : Sd α), k.wt ≤ 60 → s.c.length ≤ 60 → (step f k s).size ≤ s.size + 60 ∧ (step f k s).c.length ≤ 60
  | .write w, s, h, hc => by
    have h : w.length ≤ 60 := h
    unfold Sd.size step
    simp only [List.length_append, List.length_map]
    omega
  | .paste, s, h, hc => by
    unfold Sd.size step
    simp only [List.length_append]
    omega
  | .left n, s, h, hc | .right n, s, h, hc | .strike n, s, h, hc | .rub n, s, h, hc | .copy n, s, h, hc | .cut n, s, h, hc => by
    have h : n ≤ 60 := h
    unfold Sd.size step
    simp only [List.length_append, near_len, rest_len]
    omega
def steps (f : Nat → α) (ks : List Ky) (s : Sd α) : Sd α := ks.foldl (fun s k => step f k s) s
theorem steps_app (f : Nat → α) (as bs : List Ky) (s : Sd α) : steps f (as ++ bs) s = steps f bs (steps f as s) := by unfold steps; rw [List.foldl_append]
theorem steps_cons (f : Nat → α) (k : Ky) (ks : List Ky) (s : Sd α) : steps f (k :: ks) s = steps f ks (step f k s) := rfl
theorem steps_map (f : Nat → α) (g : α → β) : ∀ (ks : List Ky) (s : Sd α), steps (fun n => g (f n)) ks (s.map g) = (steps f ks s).map g
  | [], _ => rfl
  | k :: ks, s => by rw [steps_cons, steps_cons, step_map, steps_map f g ks]
theorem steps_size (f : Nat → α) : ∀ (ks : List Ky) (s : Sd α), (∀ k ∈ ks, k.wt ≤ 60) → s.c.length ≤ 60 → (steps f ks s).size ≤ s.size + 60 * ks.length ∧ (steps f ks s).c.length ≤ 60
  | [], s, _, hc => ⟨Nat.le_refl _, hc⟩
  | k :: ks, s, h, hc => by
    obtain ⟨h1, h2⟩ := step_size f k s (h k (List.mem_cons_self ..)) hc
    obtain ⟨h3, h4⟩ := steps_size f ks (step f k s) (fun x hx => h x (List.mem_cons_of_mem _ hx)) h2
    rw [steps_cons, List.length_cons]
    exact ⟨by omega, h4⟩
/-- so many pressings -/
def presses (f : Nat → α) (ks : List Ky) : Nat → Sd α → Sd α
  | 0, s => s
  | n + 1, s => presses f ks n (steps f ks s)
theorem presses_add (f : Nat → α) (ks : List Ky) : ∀ (m n : Nat) (s : Sd α), presses f ks (m + n) s = presses f ks n (presses f ks m s)
  | 0, n, s => by rw [Nat.zero_add]; rfl
  | m + 1, n, s => by
    rw [show m + 1 + n = (m + n) + 1 by omega]
    exact presses_add f ks m n (steps f ks s)
theorem presses_succ (f : Nat → α) (ks : List Ky) (n : Nat) (s : Sd α) : presses f ks (n + 1) s = steps f ks (presses f ks n s) := presses_add f ks n 1 s
theorem presses_map (f : Nat → α) (g : α → β) (ks : List Ky) : ∀ (n : Nat) (s : Sd α), presses (fun n => g (f n)) ks n (s.map g) = (presses f ks n s).map g
  | 0, _ => rfl
  | n + 1, s => by
    show presses _ ks n (steps _ ks (s.map g)) = _
    rw [steps_map, presses_map f g ks n]
    rfl
theorem presses_size (f : Nat → α) (ks : List Ky) (h : ∀ k ∈ ks, k.wt ≤ 60) (hl : ks.length ≤ 60) : ∀ (n : Nat) (s : Sd α), s.c.length ≤ 60 → (presses f ks n s).size ≤ s.size + 3600 * n ∧ (presses f ks n s).c.length ≤ 60
  | 0, s, hc => ⟨Nat.le_refl _, hc⟩
  | n + 1, s, hc => by
    obtain ⟨h1, h2⟩ := steps_size f ks s h hc
    obtain ⟨h3, h4⟩ := presses_size f ks h hl n (steps f ks s) h2
    exact ⟨by show (presses f ks n (steps f ks s)).size ≤ _; omega, h4⟩
end

/-! ### in the heap -/
def KeyAt (K : PySem.W.Frag) (H : Hp) (v : V) (k : Ky) : Prop := ∃ a, v = .ref a ∧ Row K H a k.vs
def HandAt (K : PySem.W.Frag) (H : Hp) (v : V) (ks : List Ky) : Prop := ∃ a xs, v = .ref a ∧ Row K H a xs ∧ Paired (KeyAt K H) xs ks
theorem KeyAt.same {K : PySem.W.Frag} {H H' : Hp} {v : V} {k} (e : Same H H') (h : KeyAt K H v k) : KeyAt K H' v k := by
  obtain ⟨a, rfl, h⟩ := h
  exact ⟨a, rfl, h.same e⟩
theorem HandAt.same {K : PySem.W.Frag} {H H' : Hp} {v : V} {ks} (e : Same H H') (h : HandAt K H v ks) : HandAt K H' v ks := by
  obtain ⟨a, xs, rfl, h1, h2⟩ := h
  exact ⟨a, xs, rfl, h1.same e, prd_same (fun _ _ => KeyAt.same e) h2⟩
/-- [f(x) for x in (a row that stands in slot j)] -/
theorem lc_rowN {K : PySem.W.Frag} {a : Addr} {xs ys : List V} {tt : TT} {te : TE} {vs : List Nat} {σ : L2.St} {H : Hp} {Q : VK} {j k : Nat} (hv : σ[j]? = some (some (.ref a))) (hr : Row K H a xs) (hl : xs.length = ys.length) (hz : ys.length < sizeLine)
    (hw : ∀ x, wipe ((wipe σ vs).set k (some x)) vs = wipe σ vs) (ht : ∀ σ H (R : Bool → Hp → Prop), R true H → tt σ H R)
    (hs : ∀ (i : Nat) (x y : V) (H' : Hp), xs[i]? = some x → ys[i]? = some y → Same H H' → ∀ R : VK, (∀ H4, Same H' H4 → R y H4) → te ((wipe σ vs).set k (some x)) H' R)
    (hd : ∀ D H', Same H H' → H D = none → H' D = some (.lst ys) → Q (.ref D) H') : tLc (iSeq K (tVar j)) (gName k) tt te vs σ H Q := by
  have st : ∀ D i x H', H D = none → xs[i]? = some x → Same H H' ∧ H' D = some (.lst (ys.take i)) → gName k x (wipe σ vs) H' fun σ2 H2 => wipe σ2 vs = wipe σ vs ∧ tt σ2 H2 fun b H3 =>
      if b = true then te σ2 H3 fun y H4 => ∃ acc, H4 D = some (.lst acc) ∧ acc.length < sizeLine ∧ (Same H (upd H4 D (.lst (acc ++ [y]))) ∧ (upd H4 D (.lst (acc ++ [y]))) D = some (.lst (ys.take (i + 1)))) else (Same H H3 ∧ H3 D = some (.lst (ys.take (i + 1)))) := by
    intro D i x H' nD hx ⟨s1, hD⟩
    have hi : i < ys.length := by
      rw [← hl]
      exact (List.getElem?_eq_some_iff.mp hx).1
    refine ⟨hw x, ht _ _ _ ?_⟩
    rw [if_pos rfl]
    refine hs i x ys[i] H' hx (List.getElem?_eq_getElem hi) s1 _ fun H4 s4 => ⟨_, s4 _ _ hD, ?_, same_mut (s1.trans s4) nD, ?_⟩
    · rw [List.length_take]
      omega
    · rw [upd_same, List.take_add_one, List.getElem?_eq_getElem hi]
      rfl
  have h0 : ∀ D, H D = none → Same H (upd H D (.lst [])) ∧ (upd H D (.lst [])) D = some (.lst (ys.take 0)) := fun D nD => ⟨same_upd nD, by rw [upd_same, List.take_zero]⟩
  have hq : ∀ D H', H D = none → Same H H' ∧ H' D = some (.lst (ys.take xs.length)) → Q (.ref D) H' := fun D H' nD ⟨s1, h1⟩ => hd D H' s1 nD (by rw [h1, hl, List.take_length])
  rcases hr with hr | hr
  · exact .inl ⟨_, hv, a, rfl, ⟨_, hr⟩, fun D nD => L2.lc_list (K := K) (a := a) (xs := xs) (fun i H' => Same H H' ∧ H' D = some (.lst (ys.take i))) (h0 D nD) (fun i H' _ p => p.1.seq hr) (fun i x H' hx p => st D i x H' nD hx p) (fun H' p => hq D H' nD p)⟩
  · exact .inr ⟨_, hv, a, rfl, ⟨_, hr⟩, fun D nD => L2.lc_tup (K := K) (a := a) (xs := xs) (fun i H' => Same H H' ∧ H' D = some (.lst (ys.take i))) (h0 D nD) (fun i H' _ p => sameT p.1 hr) (fun i x H' hx p => st D i x H' nD hx p) (fun H' p => hq D H' nD p)⟩
/-- the letter of a code -/
def lV (c : Nat) : V := .str (tx [c])
end BK

namespace BK
open PySem PySem.Spec PyProof.Rows L2

/-! ## defs that ask for a repr: known is that no repr is under way around them -/
structure FnG (P : Program) (w : World) (K : PySem.W.Frag) (mg : Str → Option Value) (base : Heap) (C : CXT) (k : Nat) (f : Addr) (fd : FuncData) (ps : List Str) (sp : Sp) : Prop where
  ln : ∀ vs H Q E, sp vs H Q E → vs.length = ps.length
  go : ∀ (A : Around) (out : List Env) (s : Shared) (H : Hp) (ar : Args) (us : List Value) (vs : List V) (Q : VK) (E : XK), A.guards = some [] → Room k A → Env0 P w K mg base A out s H →
    BindsTo s fd ar (ps.zip us) → Vals vs us → sp vs H Q E → codeAny (model P w) A (.call (.ref f) ar) (CR C out P w H s Q E) s
section
variable {P : Program} {w : World} {K : PySem.W.Frag} {mg : Str → Option Value} {base : Heap} {C : CXT} {k : Nat} {f : Addr} {fd : FuncData} {ps : List Str} {sp : Sp}
theorem FnG.up {j : Nat} (F : FnG P w K mg base C j f fd ps sp) (h : j ≤ k) : FnG P w K mg base C k f fd ps sp :=
  ⟨F.ln, fun A out s H ar us vs Q E hg hr => F.go A out s H ar us vs Q E hg (hr.mono h)⟩
/-- its body keeps the promise -/
theorem fnG_of {nm ql : Str} {pa : Arguments} {bd : List Stmt} {sc : Scope} {dv kv dc pm cv ct oc : Value} {an od : Option Addr} {sl : Array (Option Value)} {N : List Str}
    (lk : K.lookup f = some ⟨oc, od, .func (PySem.W.fnOf nm ql pa bd sc dv kv dc pm an cv ct), sl⟩) (hc : PySem.W.codeIn K cv ql = true) (S : FnScope N ps sc) (ln : ∀ vs H Q E, sp vs H Q E → vs.length = ps.length)
    (hb : ∀ (A : Around) (out : List Env) (s : Shared) (H : Hp) (vs : List V) (Q : VK) (E : XK), A.guards = some [] → Room k (A.deeper (envOfC ql sc s.heap.objs.size f cv)) → sp vs H Q E →
      ∃ t, PSs (cxOf C P w K mg base N ql sc f cv A out s H E) bd t ∧ t { nx := fun _ H' => Q .non H', rt := Q } (start N vs) H) :
    FnG P w K mg base C (k + 1) f (PySem.W.fnOf nm ql pa bd sc dv kv dc pm an cv ct) ps sp := by
  refine ⟨ln, ?_⟩
  intro A out s H ar us vs Q E hg hr e0 hbd r hsp
  have hlen := ln _ _ _ _ hsp
  have hK : K.In s.heap := e0.mod.kin.keeps (fun b o e => (e0.bs b o e).1)
  have hlim : s.heap.NoLimit := e0.mod.nolimit.keeps (fun b o e => (e0.bs b o e).1)
  have hki : ∀ z ∈ ps.zip us, sc.names.lookup z.1 = some .local ∨ (sc.names.lookup z.1 = some .cell ∧ ((cellsFrom (s.heap.objs.size + 1) sc.names []).lookup z.1).isSome = true) := by
    rintro ⟨n, v⟩ hz
    rcases S.par n (List.of_mem_zip hz).1 with h | h
    · exact Or.inl h
    · exact Or.inr ⟨h, PySem.W.cellsFrom_some _ _ _ (Or.inl h)⟩
  refine codeAny_call_function hr.depth (hK _ _ lk) rfl S.co S.gen rfl (PySem.W.codeRec_of hK hc) (hbd _ _ _ _ ?_)
  refine wpAny_newFunctionEnv_cells S.kind hki (fun en hen sB xi => ?_)
  subst hen
  refine ⟨hlim.keeps xi.toInCall.keep, codeAny_func ?_⟩
  obtain ⟨t, ht, hq⟩ := hb A out s H vs Q E hg (hr.deeper _) hsp
  have J0 : Inv (cxOf C P w K mg base N ql sc f cv A out s H E) [] (start N vs) H sB := inv_start S hr.hd e0 hlen r xi
  refine wpAny_mono (ht.run [] sB (start N vs) H _ J0 hq) (fun fl sE hE => ?_) (fun e sE hE => hE)
  cases fl with
  | ret u =>
    obtain ⟨v, τ, HE, J, rv, q⟩ := hE
    exact ⟨v, HE, J.os, J.bare, J.base, J.hok, rv, q⟩
  | next =>
    obtain ⟨τ, HE, J, q⟩ := hE
    exact ⟨V.non, HE, J.os, J.bare, J.base, J.hok, (rfl : RelV .non Value.none), q⟩
  | brk => exact hE.elim fun _ z => z.elim fun _ z => z.2.elim
  | cont => exact hE.elim fun _ z => z.elim fun _ z => z.2.elim
end
section
variable {P : Program} {w : World} {K : PySem.W.Frag} {mg : Str → Option Value} {base : Heap}
theorem funG {x ql : Str} {st : Stmt} {f : Addr} {fd : FuncData} {N ps : List Str} {k : Nat} {sp : Sp} (F : Fun K x ql st f fd) (S : FnScope N ps (defScope st)) (ln : ∀ vs H Q E, sp vs H Q E → vs.length = ps.length)
    (hb : ∀ (cv : Value) (A : Around) (out : List Env) (s : Shared) (H : Hp) (vs : List V) (Q : VK) (E : XK), A.guards = some [] → Room k (A.deeper (envOfC ql (defScope st) s.heap.objs.size f cv)) → sp vs H Q E →
      ∃ t, PSs (cxOf CX0 P w K mg base N ql (defScope st) f cv A out s H E).nox (defBody st) t ∧ t { nx := fun _ H' => Q .non H', rt := Q } (start N vs) H) : FnG P w K mg base CX0 (k + 1) f fd ps sp := by
  obtain ⟨oc, od, kv, dc, pm, an, cv, ct, sl, rfl, lk, hc⟩ := F.ex
  exact fnG_of lk hc S ln fun A out s H vs Q E hg hr hsp => let ⟨t, h, q⟩ := hb cv A out s H vs Q E hg hr hsp; ⟨t, h.nox, q⟩
end
section
variable {X : Cx} {C : CXT} {k : Nat} {f : Addr} {fd : FuncData} {ps : List Str} {sp : Sp} {dvs : List V} {ds : List Value} {E : XK} {x : Str} {p pos : Pos} {e : Expr} {es : List Expr} {t : TA}
theorem run_G {pins : List (Addr × Obj)} {σ : L2.St} {H : Hp} {s : Shared} {Q : VK} {us : List Value} {vs : List V} (F : FnG X.prog X.w X.K X.mg X.base C k f fd ps sp) (hg : X.A.guards = some []) (hr : Room k X.A) (hb : Binds X.K fd ps ds) (hd : Vals dvs ds) (hx : Passes C X E)
    (I : L2.Inv X pins σ H s) (r : Vals vs us) (h : sp (vs ++ dvs) H Q E) : wpAny (model X.prog X.w) X.A (call (.ref f) us) (EP X pins σ Q) X.xe s := by
  have rr : Vals (vs ++ dvs) (us ++ ds) := r.append hd
  have hl : (us ++ ds).length = ps.length := rr.length.symm.trans (F.ln _ _ _ _ h)
  refine wpAny_call (codeAny_mono (F.go X.A X.stack s H ⟨us, []⟩ (us ++ ds) (vs ++ dvs) Q E hg hr I.env0 (hb s us I.kIn hl) rr h) (fun r sE hE => ?_))
  match r, hE with
  | .error e, hE => exact hx pins σ H s e sE I hE
  | .ok (.ret u), hE => exact I.after hE
theorem pe_callG (F : FnG X.prog X.w X.K X.mg X.base C k f fd ps sp) (hg : X.A.guards = some []) (hr : Room k X.A) (hgl : Gl X x) (hm : X.mg x = some (.ref f)) (hk : PySem.W.keepIn X.K (.ref f) = true) (hb : Binds X.K fd ps ds) (hd : Vals dvs ds) (hx : Passes C X E)
    (ha : PA X (e :: es) t) (hdb : (x == ("__debug__" : Str)) = false := by decide) (he : starEach (e :: es) X.env = (false, eval e X.env) :: starEach es X.env := by rfl) (hpl : (backTo pos (starEach es X.env)).any (·.1) = false := by rfl) :
    PE X (.Call (.Name x p) (e :: es) [] pos) (tCall sp dvs E t) := by
  constructor
  intro pins s σ H Q I h
  refine wpAny_Call_Name_kw (ld_glob I hgl hm ?_ hdb)
  exact PySem.W.callWith_K (h₀ := X.base) I.ok.mod.kin hk (thn (ha.run pos pins s σ H _ I h) (fun us sB ⟨vs, HB, J, r, q⟩ => ⟨J.kIn, run_G F hg hr hb hd hx J r q⟩)) he hpl
end

/-! ## the law's promise at the heap behind the top -/
/-- a law that may ask for reprs, from what its def promises -/
theorem law_G {P : Program} {w : World} {K : PySem.W.Frag} {mg mb : Str → Option Value} {C : CXT} {k : Nat} {fa a : Addr} {fd : FuncData} {x : Str} {sp : Sp} {s : Shared} {vs : List Value} {ns : List Int}
    (KX : K.In s.heap) (hns : s.heap.Ns mainGlobals mg) (hb : s.heap.Ns builtinsNs mb) (hbb : ∀ x : Str, x ≠ "__name__" → mb x = bootBuiltins x) (hlim : s.heap.NoLimit) (hgen : s.gens = #[])
    (ha : s.heap.get? a = some { cls := .type "list", data := .seq vs.toArray }) (hi : IntsAre vs ns) (hl : ns.length ≤ sizeLine) (hr : Room k callerA)
    (F : ∀ b : Heap, K.In b → b.Ns mainGlobals mg → FnG P w K mg b C k fa fd [x] sp) (hbind : ∀ (s : Shared) (u : Value), BindsTo s fd ⟨[u], []⟩ [(x, u)])
    (hsp : ∀ H : Hp, Only H → SqL K H a (ns.map V.int) → sp [.ref a] H (fun v _ => v = .bl true) fun _ _ _ => False)
    (hC : ∀ H e s', C [] H s (fun _ _ _ => False) e s' → False) :
    codeAny (model P w) callerA (.call (.ref fa) ⟨[.ref a], []⟩) (fun r s' => r = .ok (.ret (.bool true)) ∧ OldK s.heap s'.heap ∧ s'.os = s.os ∧ AllBare s'.gens) s := by
  have rv := vals_ints hi
  have lv := hi.length
  -- H tracks nothing, or the script alone
  suffices core : ∀ H : Hp, Only H → SqL K H a (ns.map V.int) → HOk P w H s.heap → (∀ b, H b ≠ none → b = a) → (H a ≠ none → K.lookup a = none) →
      codeAny (model P w) callerA (.call (.ref fa) ⟨[.ref a], []⟩) (fun r s' => r = .ok (.ret (.bool true)) ∧ OldK s.heap s'.heap ∧ s'.os = s.os ∧ AllBare s'.gens) s by
    cases hk : K.lookup a with
    | some o =>
      have e := (KX a o hk).symm.trans ha
      cases e
      exact core (fun _ => none) (fun _ => .inl rfl) (.inr ⟨_, vs.toArray, _, hk, rfl, rfl, rfl, by rw [List.size_toArray, lv]; exact hl, by simpa using rv⟩) (fun b u z => nomatch z) (fun b z => absurd rfl z) (fun z => absurd rfl z)
    | none =>
      let o : HO := .frz { cls := .type "list", data := .seq vs.toArray } (.lst (ns.map V.int))
      have at_a : ∀ {b u}, upd (fun _ => none) a o b = some u → b = a ∧ u = o := fun {b u} z => by
        by_cases hba : b = a
        · subst hba
          rw [upd_same] at z
          exact ⟨rfl, (Option.some.inj z).symm⟩
        · rw [upd_ne hba] at z
          exact nomatch z
      have uo : upd (fun _ => none) a o a = some (.frz { cls := .type "list", data := .seq vs.toArray } (.lst (ns.map V.int))) := upd_same
      refine core (upd (fun _ => none) a o) (fun b => ?_) (.inl (.inr ⟨_, uo⟩)) (fun b u z => ?_) (fun b z => ?_) (fun _ => hk)
      · by_cases hba : b = a
        · subst hba
          exact Or.inr ⟨_, _, uo⟩
        · exact .inl (upd_ne hba)
      · obtain ⟨rfl, rfl⟩ := at_a z
        exact ⟨ha, by rw [List.length_map]; exact hl, vs, _, rv, ha⟩
      · cases q : upd (fun _ => none) a o b with
        | none => exact absurd q z
        | some u => exact (at_a q).1
  intro H hO hS hok hA hKa
  have low : ∀ {b : Addr} {o : Obj}, s.heap.get? b = some o → (H b ≠ none → False) → (hidT s.heap H).get? b = some o := fun {b o} e n => by
    refine hidT_get e ?_
    cases q : H b with
    | none => rfl
    | some u => exact (n (by rw [q]; exact nofun)).elim
  have nsK : ∀ {b : Addr} {m : Str → Option Value}, s.heap.Ns b m → (hidT s.heap H).Ns b m := by
    rintro b m ⟨o, es, ep, e, d, r⟩
    refine ⟨o, es, ep, low e (fun n => ?_), d, r⟩
    have eb := hA b n
    subst eb
    have eo := e.symm.trans ha
    cases eo
    cases (show Data.seq vs.toArray _ = Data.dict es ep from d)
  have hKb : K.In (hidT s.heap H) := fun b o e => low (KX b o e) (fun n => by
    have eb := hA b n
    subst eb
    rw [hKa n] at e
    cases e)
  obtain ⟨mc, hm1, hm2⟩ := hlim
  have hM : Mod K mg (hidT s.heap H) := ⟨hKb, nsK hns, ⟨mb, nsK hb, hbb⟩, mc, nsK hm1, hm2⟩
  have e0 : Env0 P w K mg (hidT s.heap H) callerA [] s H := ⟨rfl, hM, fun b o e => of_hidT e, Nat.le_of_eq (hidT_size _ _), trivial, fun b hb => (List.not_mem_nil hb).elim, hok, .of_eq hgen⟩
  refine codeAny_mono ((F _ hKb (nsK hns)).go callerA [] s H ⟨[.ref a], []⟩ [.ref a] [.ref a] _ _ rfl hr e0 (hbind s (.ref a)) (.cons rfl .nil) (hsp H hO hS)) (fun r s' h => ?_)
  match r, h with
  | .error e, h => exact (hC H e s' h).elim
  | .ok (.ret u), h =>
    obtain ⟨v, HE, os, bare, un, hokE, rr, q⟩ := h
    obtain rfl : v = .bl true := q
    obtain rfl : u = Value.bool true := rr
    refine ⟨rfl, OldK.of_keep (fun b o e => ?_), os, bare⟩
    rcases hO b with z | ⟨ob, xs, z⟩
    · exact un.keep b o e z (fun z => (List.not_mem_nil z).elim) (fun z => (List.not_mem_nil z).elim)
    · have e1 := (hok b _ z).1
      have e2 := (hokE b _ (un.frzs b ob _ z)).1
      rw [e] at e1
      cases e1
      exact e2
theorem walk_G {l : PySem.W.OpenLaw} {n k : Nat} {q : Program} {lo : List Str} {XP : (Str → Option Value) → Heap → Prop} {YP : World → Heap → Prop} {d : DefRec} {K : Params → PySem.W.Frag} {C : World → CXT} {sp : World → Sp} {x : Str}
    (hn : l.most = some n) (hz : n ≤ sizeLine) (hdf : d.params.defaults = []) (hr : Room k callerA) (hY : ∀ (w : World) (h : Heap), YP w h → (K w.params).In h)
    (F : ∀ (w : World) (mg : Str → Option Value) (fa : Addr) (h : Heap), (K w.params).In h → h.Ns mainGlobals mg → mg d.name = some (.ref fa) →
      ∃ fd : FuncData, (∀ (s : Shared) (u : Value), BindsTo s fd ⟨[u], []⟩ [(x, u)]) ∧ ∀ b : Heap, (K w.params).In b → b.Ns mainGlobals mg → FnG l.prog w (K w.params) mg b (C w) k fa fd [x] (sp w))
    (hsp : ∀ (w : World) (H : Hp) (a : Addr) (ns : List Int), ns.length ≤ n → Only H → SqL (K w.params) H a (ns.map V.int) → sp w [.ref a] H (fun v _ => v = .bl true) fun _ _ _ => False)
    (hC : ∀ (w : World) (H : Hp) (s : Shared) (e : Value) (s' : Shared), C w [] H s (fun _ _ _ => False) e s' → False) :
    PySem.W.WalkO q lo XP YP l.row.toRowW d [] (fun f vs => PySem.call f vs) := by
  refine Att.attach_call hn hdf ?_
  intro w s0 s1 mg mb fa o pm cd doc a vs ns G Y ho hd hcd hmg hob hin hle hgn
  obtain ⟨fd, hb, hF⟩ := F w mg fa _ (hY w _ Y) G.T.g hmg
  exact law_G (hY w _ Y) G.T.g G.T.b G.T.builtins G.T.nolimit hgn hob hin (Nat.le_trans hle hz) hr hF hb (fun H hO hS => hsp w H a ns hle hO hS) (fun H e s' => hC w H s1 e s')
end BK

namespace BK
open PySem PySem.Spec PyProof.Rows L2

/-! ## reprs of handed things -/
mutual
def Dt.py : Dt → PyData
  | .non => .none
  | .bl b => .bool b
  | .int i => .int i
  | .str w => .str (tx w)
  | .lst ds => .list (pyAll ds)
  | .tup ds => .tuple (pyAll ds)
  | .dic => .dict []
def pyAll : List Dt → List PyData
  | [] => []
  | d :: ds => d.py :: pyAll ds
end
mutual
/-- what has a short repr; no dict within -/
def Fits : Dt → Prop
  | .non => True
  | .bl _ => True
  | .int i => i.natAbs < 10 ^ 47
  | .str w => ∀ c ∈ w, c < 4294967296
  | .lst ds => FitsAll ds
  | .tup ds => FitsAll ds
  | .dic => False
def FitsAll : List Dt → Prop
  | [] => True
  | d :: ds => Fits d ∧ FitsAll ds
end
mutual
def deep : Dt → Nat
  | .lst ds => deepAll ds + 1
  | .tup ds => deepAll ds + 1
  | .dic => 1
  | _ => 0
def deepAll : List Dt → Nat
  | [] => 0
  | d :: ds => max (deep d) (deepAll ds)
end
mutual
def bulk : Dt → Nat
  | .str w => w.length
  | .lst ds => bulkAll ds
  | .tup ds => bulkAll ds
  | _ => 0
def bulkAll : List Dt → Nat
  | [] => 0
  | d :: ds => bulk d + 1 + bulkAll ds
end
theorem fitsAll_of : ∀ {ds : List Dt}, (∀ d ∈ ds, Fits d) → FitsAll ds
  | [], _ => by unfold FitsAll; trivial
  | d :: ds, h => by unfold FitsAll; exact ⟨h d (List.mem_cons_self ..), fitsAll_of fun x hx => h x (List.mem_cons_of_mem _ hx)⟩
theorem deepAll_le {n : Nat} : ∀ {ds : List Dt}, (∀ d ∈ ds, deep d ≤ n) → deepAll ds ≤ n
  | [], _ => by unfold deepAll; exact Nat.zero_le _
  | d :: ds, h => by
    unfold deepAll
    have h1 := h d (List.mem_cons_self ..)
    have h2 := deepAll_le (n := n) (ds := ds) fun x hx => h x (List.mem_cons_of_mem _ hx)
    omega
theorem bulkAll_le {n : Nat} : ∀ {ds : List Dt}, (∀ d ∈ ds, bulk d ≤ n) → bulkAll ds ≤ ds.length * (n + 1)
  | [], _ => by unfold bulkAll; exact Nat.zero_le _
  | d :: ds, h => by
    unfold bulkAll
    have h1 := h d (List.mem_cons_self ..)
    have h2 := bulkAll_le (n := n) (ds := ds) fun x hx => h x (List.mem_cons_of_mem _ hx)
    rw [List.length_cons, Nat.add_mul, Nat.one_mul]
    omega
mutual
theorem depth_py : ∀ d : Dt, d.py.depth = deep d
  | .non => by simp only [Dt.py, PyData.depth, deep]
  | .bl _ => by simp only [Dt.py, PyData.depth, deep]
  | .int _ => by simp only [Dt.py, PyData.depth, deep]
  | .str _ => by simp only [Dt.py, PyData.depth, deep]
  | .lst ds => by simp only [Dt.py, PyData.depth, deep, depth_all ds]
  | .tup ds => by simp only [Dt.py, PyData.depth, deep, depth_all ds]
  | .dic => by simp only [Dt.py, PyData.depth, PyData.depthKv, deep]
theorem depth_all : ∀ ds : List Dt, PyData.depthAll (pyAll ds) = deepAll ds
  | [] => by simp only [pyAll, PyData.depthAll, deepAll]
  | d :: ds => by simp only [pyAll, PyData.depthAll, deepAll, depth_py d, depth_all ds]
end
mutual
theorem bulk_py : ∀ d : Dt, d.py.bulk = bulk d
  | .non => by simp only [Dt.py, PyData.bulk, bulk]
  | .bl _ => by simp only [Dt.py, PyData.bulk, bulk]
  | .int _ => by simp only [Dt.py, PyData.bulk, bulk]
  | .str w => by simp only [Dt.py, PyData.bulk, bulk, tx, List.size_toArray]
  | .lst ds => by simp only [Dt.py, PyData.bulk, bulk, bulk_all ds]
  | .tup ds => by simp only [Dt.py, PyData.bulk, bulk, bulk_all ds]
  | .dic => by simp only [Dt.py, PyData.bulk, PyData.bulkKv, bulk]
theorem bulk_all : ∀ ds : List Dt, PyData.bulkAll (pyAll ds) = bulkAll ds
  | [] => by simp only [pyAll, PyData.bulkAll, bulkAll]
  | d :: ds => by simp only [pyAll, PyData.bulkAll, bulkAll, bulk_py d, bulk_all ds]
end
theorem int48 {i : Int} (h : i.natAbs < 10 ^ 47) : (PyData.shown (.int i)).length ≤ 48 := by
  show (Str.ofString (toString i)).length ≤ 48
  rw [PySem.ofString_length]
  exact int_text_length_le10 (k := 47) (by decide) h
theorem int_log {i : Int} (h : i.natAbs < 10 ^ 47) : i.natAbs.log2 < 1920 := by
  have h2 : i.natAbs < 2 ^ 160 := Nat.lt_of_lt_of_le h (by decide)
  by_cases h0 : i.natAbs = 0
  · rw [h0]
    decide
  · have := (Nat.log2_lt h0).mpr h2
    omega
mutual
theorem fits_short : ∀ d : Dt, Fits d → d.py.leavesShort 48 = true
  | .non, _ => by simp only [Dt.py, PyData.leavesShort]
  | .bl _, _ => by simp only [Dt.py, PyData.leavesShort]
  | .int i, h => by
    unfold Fits at h
    simp only [Dt.py, PyData.leavesShort, decide_eq_true_eq]
    exact int48 h
  | .str w, h => by
    unfold Fits at h
    simp only [Dt.py, PyData.leavesShort, tx_cps, List.all_eq_true, decide_eq_true_eq]
    exact fun c hc => h c hc
  | .lst ds, h => by
    unfold Fits at h
    simp only [Dt.py, PyData.leavesShort]
    exact fitsAll_short ds h
  | .tup ds, h => by
    unfold Fits at h
    simp only [Dt.py, PyData.leavesShort]
    exact fitsAll_short ds h
  | .dic, h => by unfold Fits at h; exact h.elim
theorem fitsAll_short : ∀ ds : List Dt, FitsAll ds → PyData.leavesShortAll 48 (pyAll ds) = true
  | [], _ => by simp only [pyAll, PyData.leavesShortAll]
  | d :: ds, h => by
    unfold FitsAll at h
    simp only [pyAll, PyData.leavesShortAll, Bool.and_eq_true]
    exact ⟨fits_short d h.1, fitsAll_short ds h.2⟩
end
mutual
theorem fits_show : ∀ d : Dt, Fits d → d.py.showable = true ∧ d.py.hasDict = false
  | .non, _ => by simp only [Dt.py, PyData.showable, PyData.hasDict, and_self]
  | .bl _, _ => by simp only [Dt.py, PyData.showable, PyData.hasDict, and_self]
  | .int i, h => by
    unfold Fits at h
    simp only [Dt.py, PyData.showable, PyData.hasDict, decide_eq_true_eq, and_true]
    exact int_log h
  | .str w, h => by simp only [Dt.py, PyData.showable, PyData.hasDict, and_self]
  | .lst ds, h => by
    unfold Fits at h
    simp only [Dt.py, PyData.showable, PyData.hasDict]
    exact fitsAll_show ds h
  | .tup ds, h => by
    unfold Fits at h
    simp only [Dt.py, PyData.showable, PyData.hasDict]
    exact fitsAll_show ds h
  | .dic, h => by unfold Fits at h; exact h.elim
theorem fitsAll_show : ∀ ds : List Dt, FitsAll ds → PyData.showableAll (pyAll ds) = true ∧ PyData.hasDictAll (pyAll ds) = false
  | [], _ => by simp only [pyAll, PyData.showableAll, PyData.hasDictAll, and_self]
  | d :: ds, h => by
    unfold FitsAll at h
    have h1 := fits_show d h.1
    have h2 := fitsAll_show ds h.2
    simp only [pyAll, PyData.showableAll, PyData.hasDictAll, h1.1, h1.2, h2.1, h2.2, Bool.and_self, Bool.or_self, and_self]
end
section
variable {X : Cx} {pins : List (Addr × Obj)} {σ : L2.St} {H : Hp} {s : Shared}
mutual
theorem reads_at (I : L2.Inv X pins σ H s) : ∀ (d : Dt) (v : V) (u : Value), At X.K H v d → RelV v u → Fits d → ∃ as, Reads s.heap u d.py as
  | .non, v, u, h, r, _ => by
    unfold At at h
    subst h
    cases (show u = Value.none from r)
    simp only [Dt.py]
    exact ⟨_, .none⟩
  | .bl b, v, u, h, r, _ => by
    unfold At at h
    subst h
    cases (show u = Value.bool b from r)
    simp only [Dt.py]
    exact ⟨_, .bool b⟩
  | .int i, v, u, h, r, _ => by
    unfold At at h
    subst h
    obtain ⟨t, rfl⟩ := r
    simp only [Dt.py]
    exact ⟨_, .int i t⟩
  | .str w, v, u, h, r, _ => by
    unfold At at h
    obtain ⟨rfl, _⟩ := h
    obtain ⟨t, rfl⟩ := r
    simp only [Dt.py]
    exact ⟨_, .str _ t⟩
  | .lst ds, v, u, h, r, f => by
    unfold At at h
    unfold Fits at f
    obtain ⟨a, xs, rfl, h1, h2⟩ := h
    cases (show u = Value.ref a from r)
    obtain ⟨its, rv, ⟨o, n, e1, e2, _, e3⟩, _⟩ := I.list h1
    obtain ⟨as, k⟩ := reads_ats I ds xs its h2 rv f
    simp only [Dt.py]
    exact ⟨_, .list e1 e2 e3 (by rw [List.toList_toArray]; exact k)⟩
  | .tup ds, v, u, h, r, f => by
    unfold At at h
    unfold Fits at f
    obtain ⟨a, xs, rfl, h1, h2⟩ := h
    cases (show u = Value.ref a from r)
    obtain ⟨its, rv, ⟨o, e1, e2, n, e3⟩, _⟩ := I.tuple h1
    obtain ⟨as, k⟩ := reads_ats I ds xs its h2 rv f
    simp only [Dt.py]
    exact ⟨_, .tuple e1 e2 e3 (by rw [List.toList_toArray]; exact k)⟩
  | .dic, v, u, h, r, f => by unfold Fits at f; exact f.elim
theorem reads_ats (I : L2.Inv X pins σ H s) : ∀ (ds : List Dt) (vs : List V) (us : List Value), Ats X.K H vs ds → Vals vs us → FitsAll ds → ∃ as, ReadsAll s.heap us (pyAll ds) as
  | [], vs, us, h, r, _ => by
    unfold Ats at h
    subst h
    cases r
    simp only [pyAll]
    exact ⟨_, .nil⟩
  | d :: ds, vs, us, h, r, f => by
    unfold Ats at h
    unfold FitsAll at f
    obtain ⟨v, ws, rfl, h1, h2⟩ := h
    cases r with
    | cons r1 r2 =>
      obtain ⟨a1, k1⟩ := reads_at I d v _ h1 r1 f.1
      obtain ⟨a2, k2⟩ := reads_ats I ds ws _ h2 r2 f.2
      simp only [pyAll]
      exact ⟨_, .cons k1 k2⟩
end
end
/-- a thing's repr -/
def shw (d : Dt) : Str := d.py.shown
def Neat (d : Dt) : Prop := Fits d ∧ deep d ≤ 60 ∧ bulk d ≤ 300000
theorem neat_size {d : Dt} (h : Neat d) : (shw d).length ≤ sizeLine := by
  have h1 := PyData.shown_le_bulk 48 (by decide) d.py (fits_short d h.1)
  rw [bulk_py] at h1
  have h2 : (48 + 2) * bulk d ≤ 50 * 300000 := Nat.mul_le_mul (Nat.le_refl _) h.2.2
  have h3 : sizeLine = 16777216 := by decide
  unfold shw
  omega
def rRepr (K : PySem.W.Frag) : List V → Hp → VK → Prop := fun xs H Q => ∃ (p : Addr) (d : Dt), xs = [.ref p] ∧ At K H (.ref p) d ∧ Neat d ∧ Q (.str (shw d)) H
theorem call_reprG {X : Cx} (hg : X.A.guards = some []) (hu : X.A.units + 64 < cLine) : CallR X (.builtin "repr") (rRepr X.K) := by
  intro pins s σ H xs us Q I r h
  obtain ⟨p, d, rfl, hat, hn, q⟩ := h
  obtain ⟨u, rfl, rp⟩ := vals1 r
  cases (show u = Value.ref p from rp)
  obtain ⟨as, rd⟩ := reads_at I d _ _ hat rfl hn.1
  have hs := fits_show d hn.1
  refine repr_of_reads' rd hs.1 (fun z => absurd z (by rw [hs.2]; exact Bool.false_ne_true)) hg (by rw [depth_py]; have := hn.2.1; omega) (fun _ _ e => e) (fun h' t tk hk => ?_) (neat_size hn)
  exact ⟨.str (shw d), H, I.kept (t' := tk) (fun b o e => hk b o e), ⟨t, rfl⟩, q⟩
end BK

namespace BK
open PySem PySem.Spec PyProof.Rows L2

/-! ## things, lists and tuples not told apart -/
mutual
def norm : Dt → Dt
  | .lst ds => .lst (normAll ds)
  | .tup ds => .lst (normAll ds)
  | .non => .non
  | .bl b => .bl b
  | .int i => .int i
  | .str w => .str w
  | .dic => .dic
def normAll : List Dt → List Dt
  | [] => []
  | d :: ds => norm d :: normAll ds
end
theorem normAll_map : ∀ ds : List Dt, normAll ds = ds.map norm
  | [] => by simp only [normAll, List.map_nil]
  | d :: ds => by simp only [normAll, List.map_cons, normAll_map ds]
mutual
theorem norm_norm : ∀ d : Dt, norm (norm d) = norm d
  | .lst ds => by simp only [norm, normAll_normAll ds]
  | .tup ds => by simp only [norm, normAll_normAll ds]
  | .non => by simp only [norm]
  | .bl b => by simp only [norm]
  | .int i => by simp only [norm]
  | .str w => by simp only [norm]
  | .dic => by simp only [norm]
theorem normAll_normAll : ∀ ds : List Dt, normAll (normAll ds) = normAll ds
  | [] => by simp only [normAll]
  | d :: ds => by simp only [normAll, norm_norm d, normAll_normAll ds]
end
theorem row_norm (d : Dt) : isRow (norm d) = isRow d := by cases d <;> simp only [norm, isRow]
theorem items_norm (d : Dt) : (norm d).items = d.items.map norm := by cases d <;> simp only [norm, Dt.items, normAll_map, List.map_nil]
theorem whole_norm (d : Dt) (lo : Int) : isWhole (norm d) lo = isWhole d lo := by cases d <;> simp only [norm, isWhole]
theorem within_norm (d : Dt) (lo hi : Int) : isWithin (norm d) lo hi = isWithin d lo hi := by cases d <;> simp only [norm, isWithin]
theorem word_norm (d : Dt) : isWord (norm d) = isWord d := by cases d <;> simp only [norm, isWord]
theorem plain_norm (d : Dt) : isPlain (norm d) = isPlain d := by cases d <;> simp only [norm, isPlain]
theorem piece_norm (d : Dt) : isPiece (norm d) = isPiece d := by
  unfold isPiece
  rw [row_norm, items_norm]
  congr 1
  match d.items with
  | [] => rfl
  | [a] => rfl
  | [a, b] =>
    show (isWord (norm a) && isWhole (norm b) 1) = (isWord a && isWhole b 1)
    rw [word_norm, whole_norm]
  | a :: b :: c :: r => rfl
theorem pcOf_norm (d : Dt) : pcOf (norm d) = pcOf d := by
  unfold pcOf
  rw [items_norm]
  match d.items with
  | [] => rfl
  | [a] => cases a <;> simp only [norm, List.map_cons, List.map_nil]
  | [a, b] => cases a <;> cases b <;> simp only [norm, List.map_cons, List.map_nil]
  | a :: b :: c :: r => cases a <;> cases b <;> simp only [norm, List.map_cons]
theorem pieceSize_norm (d : Dt) : pieceSize (norm d) = pieceSize d := by
  unfold pieceSize
  rw [items_norm]
  match d.items with
  | [] => rfl
  | [a] => cases a <;> simp only [norm, List.map_cons, List.map_nil]
  | [a, b] => cases a <;> cases b <;> simp only [norm, List.map_cons, List.map_nil]
  | a :: b :: c :: r => cases a <;> cases b <;> simp only [norm, List.map_cons]
theorem isText_norm (d : Dt) : isText (norm d) = isText d := by
  unfold isText
  rw [row_norm, items_norm, List.length_map, List.all_map, List.map_map]
  have e1 : (isPiece ∘ norm) = isPiece := funext piece_norm
  have e2 : (pieceSize ∘ norm) = pieceSize := funext pieceSize_norm
  rw [e1, e2]
theorem pcs_norm (d : Dt) : pcs (norm d) = pcs d := by
  unfold pcs
  rw [items_norm, List.map_map, show (pcOf ∘ norm) = pcOf from funext pcOf_norm]
theorem isText_like {d e : Dt} (h : norm e = norm d) : isText e = isText d := by rw [← isText_norm, h, isText_norm]
theorem pcs_like {d e : Dt} (h : norm e = norm d) : pcs e = pcs d := by rw [← pcs_norm, h, pcs_norm]
mutual
theorem fits_norm : ∀ d : Dt, Fits (norm d) = Fits d
  | .lst ds => by simp only [norm, Fits, fitsAll_norm ds]
  | .tup ds => by simp only [norm, Fits, fitsAll_norm ds]
  | .non => by simp only [norm]
  | .bl b => by simp only [norm]
  | .int i => by simp only [norm]
  | .str w => by simp only [norm]
  | .dic => by simp only [norm]
theorem fitsAll_norm : ∀ ds : List Dt, FitsAll (normAll ds) = FitsAll ds
  | [] => by simp only [normAll]
  | d :: ds => by simp only [normAll, FitsAll, fits_norm d, fitsAll_norm ds]
end
mutual
theorem deep_norm : ∀ d : Dt, deep (norm d) = deep d
  | .lst ds => by simp only [norm, deep, deepAll_norm ds]
  | .tup ds => by simp only [norm, deep, deepAll_norm ds]
  | .non => by simp only [norm]
  | .bl b => by simp only [norm]
  | .int i => by simp only [norm]
  | .str w => by simp only [norm]
  | .dic => by simp only [norm]
theorem deepAll_norm : ∀ ds : List Dt, deepAll (normAll ds) = deepAll ds
  | [] => by simp only [normAll]
  | d :: ds => by simp only [normAll, deepAll, deep_norm d, deepAll_norm ds]
end
mutual
theorem bulk_norm : ∀ d : Dt, bulk (norm d) = bulk d
  | .lst ds => by simp only [norm, bulk, bulkAll_norm ds]
  | .tup ds => by simp only [norm, bulk, bulkAll_norm ds]
  | .non => by simp only [norm]
  | .bl b => by simp only [norm]
  | .int i => by simp only [norm]
  | .str w => by simp only [norm]
  | .dic => by simp only [norm]
theorem bulkAll_norm : ∀ ds : List Dt, bulkAll (normAll ds) = bulkAll ds
  | [] => by simp only [normAll]
  | d :: ds => by simp only [normAll, bulkAll, bulk_norm d, bulkAll_norm ds]
end
theorem neat_like {d e : Dt} (h : norm e = norm d) (n : Neat d) : Neat e := by
  refine ⟨?_, ?_, ?_⟩
  · rw [← fits_norm, h, fits_norm]
    exact n.1
  · rw [← deep_norm, h, deep_norm]
    exact n.2.1
  · rw [← bulk_norm, h, bulk_norm]
    exact n.2.2

/-! ## new lists all through: their rooms -/
mutual
def AtF (H : Hp) : V → Dt → List Addr → Prop
  | v, .lst ds, fp => ∃ a xs fs, v = .ref a ∧ H a = some (.lst xs) ∧ AtFs H xs ds fs ∧ fp = a :: fs
  | v, .non, fp => v = .non ∧ fp = []
  | v, .bl b, fp => v = .bl b ∧ fp = []
  | v, .int i, fp => v = .int i ∧ fp = []
  | v, .str w, fp => v = .str (tx w) ∧ w.length ≤ 1000000 ∧ fp = []
  | _, .tup _, _ => False
  | _, .dic, _ => False
def AtFs (H : Hp) : List V → List Dt → List Addr → Prop
  | vs, [], fp => vs = [] ∧ fp = []
  | vs, d :: ds, fp => ∃ v us f fs, vs = v :: us ∧ AtF H v d f ∧ AtFs H us ds fs ∧ fp = f ++ fs
end
mutual
theorem AtF.same {H H' : Hp} : ∀ (d : Dt) (v : V) (fp : List Addr), AtF H v d fp → (∀ b o, b ∈ fp → H b = some o → H' b = some o) → AtF H' v d fp
  | .lst ds, v, fp, h, e => by
    unfold AtF at h ⊢
    obtain ⟨a, xs, fs, rfl, h1, h2, rfl⟩ := h
    exact ⟨a, xs, fs, rfl, e _ _ (List.mem_cons_self ..) h1, AtFs.same ds xs fs h2 (fun b o hb => e b o (List.mem_cons_of_mem _ hb)), rfl⟩
  | .non, v, fp, h, e => by unfold AtF at h ⊢; exact h
  | .bl b, v, fp, h, e => by unfold AtF at h ⊢; exact h
  | .int i, v, fp, h, e => by unfold AtF at h ⊢; exact h
  | .str w, v, fp, h, e => by unfold AtF at h ⊢; exact h
  | .tup _, v, fp, h, e => by unfold AtF at h; exact h.elim
  | .dic, v, fp, h, e => by unfold AtF at h; exact h.elim
theorem AtFs.same {H H' : Hp} : ∀ (ds : List Dt) (vs : List V) (fp : List Addr), AtFs H vs ds fp → (∀ b o, b ∈ fp → H b = some o → H' b = some o) → AtFs H' vs ds fp
  | [], vs, fp, h, e => by unfold AtFs at h ⊢; exact h
  | d :: ds, vs, fp, h, e => by
    unfold AtFs at h ⊢
    obtain ⟨v, us, f, fs, rfl, h1, h2, rfl⟩ := h
    exact ⟨v, us, f, fs, rfl, AtF.same d v f h1 (fun b o hb => e b o (List.mem_append_left _ hb)), AtFs.same ds us fs h2 (fun b o hb => e b o (List.mem_append_right _ hb)), rfl⟩
end
mutual
theorem AtF.at {K : PySem.W.Frag} {H : Hp} : ∀ (d : Dt) (v : V) (fp : List Addr), AtF H v d fp → At K H v d
  | .lst ds, v, fp, h => by
    unfold AtF at h
    obtain ⟨a, xs, fs, rfl, h1, h2, rfl⟩ := h
    unfold At
    exact ⟨a, xs, rfl, SqL.of h1, AtFs.at ds xs fs h2⟩
  | .non, v, fp, h => by unfold AtF at h; unfold At; exact h.1
  | .bl b, v, fp, h => by unfold AtF at h; unfold At; exact h.1
  | .int i, v, fp, h => by unfold AtF at h; unfold At; exact h.1
  | .str w, v, fp, h => by unfold AtF at h; unfold At; exact ⟨h.1, h.2.1⟩
  | .tup _, v, fp, h => by unfold AtF at h; exact h.elim
  | .dic, v, fp, h => by unfold AtF at h; exact h.elim
theorem AtFs.at {K : PySem.W.Frag} {H : Hp} : ∀ (ds : List Dt) (vs : List V) (fp : List Addr), AtFs H vs ds fp → Ats K H vs ds
  | [], vs, fp, h => by unfold AtFs at h; unfold Ats; exact h.1
  | d :: ds, vs, fp, h => by
    unfold AtFs at h
    obtain ⟨v, us, f, fs, rfl, h1, h2, rfl⟩ := h
    unfold Ats
    exact ⟨v, us, rfl, AtF.at d v f h1, AtFs.at ds us fs h2⟩
end
theorem AtFs.snoc {H : Hp} {v : V} {d : Dt} {f : List Addr} (hv : AtF H v d f) : ∀ {ds : List Dt} {vs : List V} {fs : List Addr}, AtFs H vs ds fs → AtFs H (vs ++ [v]) (ds ++ [d]) (fs ++ f)
  | [], vs, fs, h => by
    unfold AtFs at h
    obtain ⟨rfl, rfl⟩ := h
    show AtFs H [v] [d] f
    unfold AtFs
    exact ⟨v, [], f, [], rfl, hv, by unfold AtFs; exact ⟨rfl, rfl⟩, (List.append_nil f).symm⟩
  | c :: ds, vs, fs, h => by
    unfold AtFs at h
    obtain ⟨u, us, g, gs, rfl, h1, h2, rfl⟩ := h
    show AtFs H (u :: (us ++ [v])) (c :: (ds ++ [d])) _
    unfold AtFs
    exact ⟨u, us ++ [v], g, gs ++ f, rfl, h1, AtFs.snoc hv h2, List.append_assoc ..⟩
theorem Ats.snoc {K : PySem.W.Frag} {H : Hp} {v : V} {d : Dt} (hv : At K H v d) : ∀ {ds : List Dt} {vs : List V}, Ats K H vs ds → Ats K H (vs ++ [v]) (ds ++ [d])
  | [], vs, h => by
    unfold Ats at h
    subst h
    show Ats K H [v] [d]
    unfold Ats
    exact ⟨v, [], rfl, hv, by unfold Ats; rfl⟩
  | c :: ds, vs, h => by
    unfold Ats at h
    obtain ⟨u, us, rfl, h1, h2⟩ := h
    show Ats K H (u :: (us ++ [v])) (c :: (ds ++ [d]))
    unfold Ats
    exact ⟨u, us ++ [v], rfl, h1, Ats.snoc hv h2⟩

/-! ## isinstance of handed things -/
theorem At.tyx {K : PySem.W.Frag} {H : Hp} {v : V} {d : Dt} (h : At K H v d) : TyX K H v (.type d.ty) := by
  cases d with
  | non => unfold At at h; subst h; exact .base .non
  | bl b => unfold At at h; subst h; exact .base (.bl b)
  | int i => unfold At at h; subst h; exact .base (.int i)
  | str w => unfold At at h; obtain ⟨rfl, _⟩ := h; exact .base (.str _)
  | lst ds =>
    unfold At at h
    obtain ⟨a, xs, rfl, h1, _⟩ := h
    rcases h1 with (h1 | ⟨o, h1⟩) | ⟨o, its, n, h1, h2, _⟩
    · exact .base (.lst h1)
    · exact .base (.frz h1)
    · exact .kList h1 h2
  | tup ds =>
    unfold At at h
    obtain ⟨a, xs, rfl, h1, _⟩ := h
    rcases h1 with (h1 | ⟨o, h1⟩) | ⟨o, its, n, h1, h2, _⟩
    · exact .base (.tup h1)
    · exact .fTuple h1
    · exact .kTuple h1 h2
  | dic => unfold At at h; obtain ⟨a, rfl, h1⟩ := h; exact .base (.dK h1)
theorem kit_known : ∀ y ∈ knownTy, ∀ n ∈ ["list", "tuple", "bool", "str", "int"], kitB y n = some (decide (y = n) || (decide (y = "bool") && decide (n = "int"))) := by decide +kernel
theorem isi_ty {K : PySem.W.Frag} {H : Hp} {v : V} {d : Dt} {n : String} {Q : VK} (h : At K H v d) (hn : n ∈ ["list", "tuple", "bool", "str", "int"]) (q : Q (.bl (decide (d.ty = n) || (decide (d.ty = "bool") && decide (n = "int")))) H) : rIsi K [v, .ty n] H Q :=
  ⟨v, .ty n, .type d.ty, .type n, _, rfl, .ty n, h.tyx, kit_ty (kit_known _ (ty_known d) n hn), q⟩
theorem isRow_ty (d : Dt) : isRow d = (decide (d.ty = "list") || decide (d.ty = "tuple")) := by cases d <;> simp [isRow, Dt.ty]
theorem isi_row {K : PySem.W.Frag} {H : Hp} {v : V} {d : Dt} {t : Addr} {Q : VK} (h : At K H v d) (ht : H t = some (.tup [.ty "list", .ty "tuple"])) (q : Q (.bl (isRow d)) H) : rIsiT K [v, .ref t] H Q := by
  refine ⟨v, t, _, .type d.ty, _, _, rfl, ht, .cons (.ty "list") (.cons (.ty "tuple") .nil), h.tyx, ?_, q⟩
  rw [isRow_ty]
  refine kitAny_cons (kit_ty (kit_known _ (ty_known d) "list" (by decide))) (fun e => ?_) (fun e => ?_)
  · have e1 : decide (d.ty = "list") = false := by
      cases h : decide (d.ty = "list") with
      | false => rfl
      | true => rw [h] at e; cases e
    rw [e1, Bool.false_or]
    refine kitAny_cons (kit_ty (kit_known _ (ty_known d) "tuple" (by decide))) (fun e2 => ?_) (fun e2 => ?_)
    · have e3 : decide (d.ty = "tuple") = false := by
        cases h : decide (d.ty = "tuple") with
        | false => rfl
        | true => rw [h] at e2; cases e2
      rw [e3]
      rfl
    · rw [show (decide ("tuple" = "int")) = false from by decide, Bool.and_false, Bool.or_false] at e2
      exact e2
  · rw [show (decide ("list" = "int")) = false from by decide, Bool.and_false, Bool.or_false] at e
    rw [e]
    rfl

/-! ## rooms apart -/
mutual
theorem AtF.trk {H : Hp} : ∀ (d : Dt) (v : V) (fp : List Addr), AtF H v d fp → ∀ b ∈ fp, ∃ o, H b = some o
  | .lst ds, v, fp, h => by
    unfold AtF at h
    obtain ⟨a, xs, fs, rfl, h1, h2, rfl⟩ := h
    intro b hb
    rcases List.mem_cons.mp hb with rfl | hb
    · exact ⟨_, h1⟩
    · exact AtFs.trk ds xs fs h2 b hb
  | .non, v, fp, h => by unfold AtF at h; obtain ⟨_, rfl⟩ := h; exact fun b hb => (List.not_mem_nil hb).elim
  | .bl b, v, fp, h => by unfold AtF at h; obtain ⟨_, rfl⟩ := h; exact fun b hb => (List.not_mem_nil hb).elim
  | .int i, v, fp, h => by unfold AtF at h; obtain ⟨_, rfl⟩ := h; exact fun b hb => (List.not_mem_nil hb).elim
  | .str w, v, fp, h => by unfold AtF at h; obtain ⟨_, _, rfl⟩ := h; exact fun b hb => (List.not_mem_nil hb).elim
  | .tup _, v, fp, h => by unfold AtF at h; exact h.elim
  | .dic, v, fp, h => by unfold AtF at h; exact h.elim
theorem AtFs.trk {H : Hp} : ∀ (ds : List Dt) (vs : List V) (fp : List Addr), AtFs H vs ds fp → ∀ b ∈ fp, ∃ o, H b = some o
  | [], vs, fp, h => by unfold AtFs at h; obtain ⟨_, rfl⟩ := h; exact fun b hb => (List.not_mem_nil hb).elim
  | d :: ds, vs, fp, h => by
    unfold AtFs at h
    obtain ⟨v, us, f, fs, rfl, h1, h2, rfl⟩ := h
    intro b hb
    rcases List.mem_append.mp hb with hb | hb
    · exact AtF.trk d v f h1 b hb
    · exact AtFs.trk ds us fs h2 b hb
end
/-- the heap without one thing -/
def hid (p : Addr) (H : Hp) : Hp := fun b => if b = p then none else H b
theorem hid_ne {p b : Addr} {H : Hp} (h : b ≠ p) : hid p H b = H b := if_neg h
theorem hid_at {p b : Addr} {H : Hp} {o : HO} (h : hid p H b = some o) : b ≠ p ∧ H b = some o := by
  by_cases e : b = p
  · rw [show hid p H b = none from if_pos e] at h
    cases h
  · exact ⟨e, (if_neg e).symm.trans h⟩
theorem hid_same (p : Addr) (H : Hp) : Same (hid p H) H := fun _ _ h => (hid_at h).2
theorem hid_mono {p : Addr} {H H' : Hp} (e : Same H H') : Same (hid p H) (hid p H') := fun b o h => by
  obtain ⟨h1, h2⟩ := hid_at h
  rw [hid_ne h1]
  exact e b o h2
theorem hid_upd {p t : Addr} {H : Hp} {o : HO} (h : t ≠ p) : hid p (upd H t o) = upd (hid p H) t o := by
  funext b
  by_cases e : b = p
  · subst e
    rw [upd_ne (fun z => h z.symm)]
    show (if b = b then none else _) = (if b = b then none else _)
    rw [if_pos rfl, if_pos rfl]
  · rw [hid_ne e]
    by_cases e2 : b = t
    · subst e2
      rw [upd_same, upd_same]
    · rw [upd_ne e2, upd_ne e2, hid_ne e]
theorem take_norm {ds : List Dt} {i : Nat} {d : Dt} (h : ds[i]? = some d) : (ds.map norm).take (i + 1) = (ds.map norm).take i ++ [norm d] := by
  rw [List.take_add_one, List.getElem?_map, h]
  rfl
theorem mem_deep {d e : Dt} (h : e ∈ d.items) : deep e + 1 ≤ deep d := by
  have key : ∀ ds : List Dt, e ∈ ds → deep e ≤ deepAll ds := by
    intro ds
    induction ds with
    | nil => intro h; cases h
    | cons c ds ih =>
      intro h
      simp only [deepAll]
      rcases List.mem_cons.mp h with rfl | h
      · omega
      · have := ih h
        omega
  cases d with
  | lst ds => have := key ds h; simp only [deep]; omega
  | tup ds => have := key ds h; simp only [deep]; omega
  | _ => cases h
theorem mem_bulk {d e : Dt} (h : e ∈ d.items) : bulk e + 1 ≤ bulk d := by
  have key : ∀ ds : List Dt, e ∈ ds → bulk e + 1 ≤ bulkAll ds := by
    intro ds
    induction ds with
    | nil => intro h; cases h
    | cons c ds ih =>
      intro h
      simp only [bulkAll]
      rcases List.mem_cons.mp h with rfl | h
      · omega
      · have := ih h
        omega
  cases d with
  | lst ds => have := key ds h; simp only [bulk]; omega
  | tup ds => have := key ds h; simp only [bulk]; omega
  | _ => cases h
theorem len_bulk (d : Dt) : d.items.length ≤ bulk d := by
  have key : ∀ ds : List Dt, ds.length ≤ bulkAll ds := by
    intro ds
    induction ds with
    | nil => exact Nat.zero_le _
    | cons c ds ih => simp only [bulkAll, List.length_cons]; omega
  cases d with
  | lst ds => exact key ds
  | tup ds => exact key ds
  | _ => exact Nat.zero_le _
theorem fitsAll_mem : ∀ {ds : List Dt}, FitsAll ds → ∀ {e}, e ∈ ds → Fits e
  | [], _, e, h => by cases h
  | d :: ds, f, e, h => by
    unfold FitsAll at f
    rcases List.mem_cons.mp h with rfl | h
    · exact f.1
    · exact fitsAll_mem f.2 h
theorem mem_fits {d e : Dt} (f : Fits d) (h : e ∈ d.items) : Fits e := by
  cases d with
  | lst ds => unfold Fits at f; exact fitsAll_mem f h
  | tup ds => unfold Fits at f; exact fitsAll_mem f h
  | _ => cases h
theorem leaf_AtF {K : PySem.W.Frag} {H : Hp} {v : V} {d : Dt} (h : At K H v d) (f : Fits d) (hr : isRow d = false) : AtF H v (norm d) [] := by
  cases d with
  | lst ds => cases hr
  | tup ds => cases hr
  | non => unfold At at h; simp only [norm]; unfold AtF; exact ⟨h, rfl⟩
  | bl b => unfold At at h; simp only [norm]; unfold AtF; exact ⟨h, rfl⟩
  | int i => unfold At at h; simp only [norm]; unfold AtF; exact ⟨h, rfl⟩
  | str w => unfold At at h; simp only [norm]; unfold AtF; exact ⟨h.1, h.2, rfl⟩
  | dic => unfold Fits at f; exact f.elim
/-- a comprehension over a row, whatever its items come to; the row stands in G, which stays -/
theorem lc_rowP {K : PySem.W.Frag} {a : Addr} {xs : List V} {tt : TT} {te : TE} {vs : List Nat} {σ : L2.St} {G H : Hp} {Q : VK} {j k : Nat} (hv : σ[j]? = some (some (.ref a))) (hr : Row K G a xs) (hG : Same G H)
    (hw : ∀ x, wipe ((wipe σ vs).set k (some x)) vs = wipe σ vs) (ht : ∀ σ H (R : Bool → Hp → Prop), R true H → tt σ H R)
    (Pv : Addr → Nat → List V → Hp → Prop) (h0 : ∀ D, H D = none → Pv D 0 [] (upd H D (.lst []))) (hk : ∀ D i ys H', Pv D i ys H' → Same G H')
    (hs : ∀ D (i : Nat) (x : V) (ys : List V) (H' : Hp), H D = none → xs[i]? = some x → Pv D i ys H' → te ((wipe σ vs).set k (some x)) H' fun y H4 => ∃ acc, H4 D = some (.lst acc) ∧ acc.length < sizeLine ∧ ∃ ys, Pv D (i + 1) ys (upd H4 D (.lst (acc ++ [y]))))
    (hd : ∀ D ys H', H D = none → Pv D xs.length ys H' → Q (.ref D) H') : tLc (iSeq K (tVar j)) (gName k) tt te vs σ H Q := by
  have st : ∀ D i x H', H D = none → xs[i]? = some x → (∃ ys, Pv D i ys H') → gName k x (wipe σ vs) H' fun σ2 H2 => wipe σ2 vs = wipe σ vs ∧ tt σ2 H2 fun b H3 =>
      if b = true then te σ2 H3 fun y H4 => ∃ acc, H4 D = some (.lst acc) ∧ acc.length < sizeLine ∧ (∃ ys, Pv D (i + 1) ys (upd H4 D (.lst (acc ++ [y])))) else (∃ ys, Pv D (i + 1) ys H3) := by
    intro D i x H' nD hx ⟨ys, hP⟩
    refine ⟨hw x, ht _ _ _ ?_⟩
    rw [if_pos rfl]
    exact hs D i x ys H' nD hx hP
  rcases hr with hr | hr
  · exact .inl ⟨_, hv, a, rfl, ⟨_, hG.seq hr⟩, fun D nD => L2.lc_list (K := K) (a := a) (xs := xs) (fun i H' => ∃ ys, Pv D i ys H') ⟨[], h0 D nD⟩ (fun i H' _ ⟨ys, p⟩ => (hk D i ys H' p).seq hr) (fun i x H' hx p => st D i x H' nD hx p) (fun H' ⟨ys, p⟩ => hd D ys H' nD p)⟩
  · exact .inr ⟨_, hv, a, rfl, ⟨_, sameT hG hr⟩, fun D nD => L2.lc_tup (K := K) (a := a) (xs := xs) (fun i H' => ∃ ys, Pv D i ys H') ⟨[], h0 D nD⟩ (fun i H' _ ⟨ys, p⟩ => sameT (hk D i ys H' p) hr) (fun i x H' hx p => st D i x H' nD hx p) (fun H' ⟨ys, p⟩ => hd D ys H' nD p)⟩
/-- the same with any target -/
theorem lc_rowX {K : PySem.W.Frag} {a : Addr} {xs : List V} {tg : TG} {tt : TT} {te : TE} {vs : List Nat} {σ : L2.St} {G H : Hp} {Q : VK} {j : Nat} (hv : σ[j]? = some (some (.ref a))) (hr : Row K G a xs) (hG : Same G H)
    (Pv : Addr → Nat → Hp → Prop) (h0 : ∀ D, H D = none → Pv D 0 (upd H D (.lst []))) (hk : ∀ D i H', Pv D i H' → Same G H')
    (hs : ∀ D (i : Nat) (x : V) (H' : Hp), H D = none → xs[i]? = some x → Pv D i H' → tg x (wipe σ vs) H' fun σ2 H2 => wipe σ2 vs = wipe σ vs ∧ tt σ2 H2 fun b H3 =>
      if b = true then te σ2 H3 fun y H4 => ∃ acc, H4 D = some (.lst acc) ∧ acc.length < sizeLine ∧ Pv D (i + 1) (upd H4 D (.lst (acc ++ [y]))) else Pv D (i + 1) H3)
    (hd : ∀ D H', H D = none → Pv D xs.length H' → Q (.ref D) H') : tLc (iSeq K (tVar j)) tg tt te vs σ H Q := by
  rcases hr with hr | hr
  · exact .inl ⟨_, hv, a, rfl, ⟨_, hG.seq hr⟩, fun D nD => L2.lc_list (K := K) (a := a) (xs := xs) (fun i H' => Pv D i H') (h0 D nD) (fun i H' _ p => (hk D i H' p).seq hr) (fun i x H' hx p => hs D i x H' nD hx p) (fun H' p => hd D H' nD p)⟩
  · exact .inr ⟨_, hv, a, rfl, ⟨_, sameT hG hr⟩, fun D nD => L2.lc_tup (K := K) (a := a) (xs := xs) (fun i H' => Pv D i H') (h0 D nD) (fun i H' _ p => sameT (hk D i H' p) hr) (fun i x H' hx p => hs D i x H' nD hx p) (fun H' p => hd D H' nD p)⟩
theorem hid_none {p b : Addr} {H : Hp} (h : H b = none) : hid p H b = none := by
  by_cases e : b = p
  · exact if_pos e
  · rw [hid_ne e]
    exact h
theorem hid_hid {D : Addr} {H : Hp} {o : HO} : hid D (upd H D o) = hid D H := by
  funext b
  by_cases e : b = D
  · subst e
    show (if b = b then none else _) = (if b = b then none else _)
    rw [if_pos rfl, if_pos rfl]
  · rw [hid_ne e, hid_ne e, upd_ne e]
end BK

namespace BK
open PySem PySem.Spec PyProof.Rows L2
/-! ## [u, v][::k], k 1 or -1 -/
def tStp (K : PySem.W.Frag) (te tk : TE) : TE := fun σ H Q => te σ H fun x H1 => tPart tk σ H1 fun o H2 => ∃ (a : Addr) (u v : V) (k : Int), x = .ref a ∧ o = some k ∧ SqL K H2 a [u, v] ∧ (k = 1 ∨ k = -1) ∧ ∀ p, H2 p = none → Q (.ref p) (upd H2 p (.lst (if k = 1 then [u, v] else [v, u])))
theorem pick_two (a b : Value) : slicePick #[a, b] none none (some 1) = #[a, b] := by
  unfold slicePick
  show ((sliceRange 0 2 1).filterMap (#[a, b][·]?)).toArray = _
  rw [show sliceRange (0 : Int) 2 1 = [0, 1] from by decide]
  rfl
theorem pick_two' (a b : Value) : slicePick #[a, b] none none (some (-1)) = #[b, a] := by
  rw [PySem.W.krv_pick]
  rfl
theorem pe_stp {X : Cx} {e st : Expr} {te tk : TE} {p3 pos : Pos} (he : PE X e te) (hk : PE X st tk) (ht : ∀ v u : Value, subscripted (.Slice none none (some st) p3) false v u = operate [v, u] (getItem v u)) : PE X (.Subscript e (.Slice none none (some st) p3) pos) (tStp X.K te tk) := by
  refine ⟨fun pins s σ H Q I h => Subscript_ (thn (he.run pins s σ H _ I h) fun w s1 ⟨x, H1, J1, r1, q1⟩ => ?_)⟩
  have nn : ∀ {s' : Shared} {G : Hp}, L2.Inv X pins σ G s' → ∀ {R : Value → Shared → Prop}, (∀ pv s2, IsPart pv none → L2.Inv X pins σ G s2 → R pv s2) → wpAny (model X.prog X.w) X.A (evalPart none X.env) R X.xe s' := fun {s' G} J {R} k =>
    thn (po_none.run pins s' σ G (fun o G2 => o = none ∧ G2 = G) J ⟨rfl, rfl⟩) fun pv s2 ⟨l, G2, J2, pl, el, e2⟩ => by
      subst el e2
      exact k pv s2 pl J2
  refine wpAny_Slice (nn J1 fun vl s2 pl J2 => nn J2 fun vu s3 pu J3 => ?_)
  refine thn ((po_some hk).run pins s3 σ H1 _ J3 q1) fun vk s4 ⟨o, H2, J4, pk, a, u, v, k, ex, ek, hsq, hkk, q⟩ => ?_
  subst ex ek
  cases (show w = Value.ref a from r1)
  have J5 : L2.Inv X pins σ H2 { s4 with heap := s4.heap.push { cls := .type "slice", data := .fields #[vl, vu, vk] } } := J4.kept (t' := s4.toks) (fun _ _ z => Heap.get?_push_of_some _ z)
  obtain ⟨its, rv, pl2, hz⟩ := J5.list hsq
  obtain ⟨a1, a2, rfl, v1, v2⟩ := vals2 rv
  refine tail_any (ops := [Value.ref a, Value.ref s4.heap.objs.size]) pl2.isList.typeIs PySem.slot_list_getitem.lookup ?_ (ht _ _)
  refine wpAny_getItem_list_slice pl2.isList (Heap.IsSliceOf.new _ vl vu vk) pl pu pk (by rcases hkk with rfl | rfl <;> decide) ?_ (by show 2 ≤ sizeLine; decide)
  have fin : ∀ (ys : List V) (us : List Value), ys.length = 2 → Vals ys us → (∀ p, H2 p = none → Q (.ref p) (upd H2 p (.lst ys))) → EP X pins σ Q (.ref (s4.heap.push { cls := .type "slice", data := .fields #[vl, vu, vk] }).objs.size) { s4 with heap := (s4.heap.push { cls := .type "slice", data := .fields #[vl, vu, vk] }).push { cls := .type "list", data := .seq us.toArray } } := fun ys us hl r k =>
    ⟨.ref _, _, J5.laid (t' := s4.toks) (o := .lst ys) (fun _ _ z => Heap.get?_push_of_some _ z) (Nat.le_refl _) ⟨by rw [hl]; decide, us, 0, r, Heap.get?_push_size _ rfl⟩, rfl, k _ (J5.hok.fresh (Nat.le_refl _))⟩
  rcases hkk with rfl | rfl
  · rw [show [a1, a2].toArray = #[a1, a2] from rfl, pick_two]
    exact fin [u, v] [a1, a2] rfl (.cons v1 (.cons v2 .nil)) q
  · rw [show [a1, a2].toArray = #[a1, a2] from rfl, pick_two']
    exact fin [v, u] [a2, a1] rfl (.cons v2 (.cons v1 .nil)) q
end BK

namespace BK
open PySem PySem.Spec PyProof.Rows L2
section
variable {K : PySem.W.Frag} {X : Cx}
theorem sl_listK (hK : X.K = K := by rfl) : SlR X (rSlL K) := hK ▸ sl_list
def rTupOf (K : PySem.W.Frag) : List V → Hp → VK → Prop := fun xs H Q => ∃ p ys, xs = [.ref p] ∧ ((SqL K H p ys ∧ ∀ l, H l = none → Q (.ref l) (upd H l (.tup ys))) ∨ (SqT K H p ys ∧ Q (.ref p) H))
theorem call_tuple_ofK (hK : X.K = K := by rfl) : CallR X (.type "tuple") (rTupOf K) := by
  subst hK
  exact call_tuple_of
theorem op_notIn_seqK (hK : X.K = K := by rfl) : OpR X (compareOp CmpOp.NotIn) (rIn K true) := hK ▸ op_notIn_seq
end
end BK

namespace BK
open PySem PySem.Spec PyProof.Rows L2
def topS (i : Nat) : Stmt := PySem.Challenge.pw_blindkeys_k09_pressed_key_by_key.main.body.getD i (.Pass ⟨0, 0, 0, 0⟩)
abbrev s_is_row : Stmt := topS 8
abbrev N_is_row : List Str := ["thing"]
theorem sc_is_row : FnScope N_is_row ["thing"] (defScope s_is_row) := ⟨rfl, rfl, rfl, by decide +kernel, rfl, by decide +kernel, by decide +kernel⟩
abbrev s_is_whole : Stmt := topS 9
abbrev N_is_whole : List Str := ["thing", "low"]
theorem sc_is_whole : FnScope N_is_whole ["thing", "low"] (defScope s_is_whole) := ⟨rfl, rfl, rfl, by decide +kernel, rfl, by decide +kernel, by decide +kernel⟩
abbrev s_is_within : Stmt := topS 10
abbrev N_is_within : List Str := ["thing", "low", "high"]
theorem sc_is_within : FnScope N_is_within ["thing", "low", "high"] (defScope s_is_within) := ⟨rfl, rfl, rfl, by decide +kernel, rfl, by decide +kernel, by decide +kernel⟩
abbrev s_is_plain : Stmt := topS 11
abbrev N_is_plain : List Str := ["thing"]
theorem sc_is_plain : FnScope N_is_plain ["thing"] (defScope s_is_plain) := ⟨rfl, rfl, rfl, by decide +kernel, rfl, by decide +kernel, by decide +kernel⟩
abbrev s_is_clip : Stmt := topS 12
abbrev N_is_clip : List Str := ["thing"]
theorem sc_is_clip : FnScope N_is_clip ["thing"] (defScope s_is_clip) := ⟨rfl, rfl, rfl, by decide +kernel, rfl, by decide +kernel, by decide +kernel⟩
abbrev s_is_word : Stmt := topS 13
abbrev N_is_word : List Str := ["thing"]
theorem sc_is_word : FnScope N_is_word ["thing"] (defScope s_is_word) := ⟨rfl, rfl, rfl, by decide +kernel, rfl, by decide +kernel, by decide +kernel⟩
abbrev s_is_key : Stmt := topS 18
abbrev N_is_key : List Str := ["thing"]
theorem sc_is_key : FnScope N_is_key ["thing"] (defScope s_is_key) := ⟨rfl, rfl, rfl, by decide +kernel, rfl, by decide +kernel, by decide +kernel⟩
abbrev s_key_weight : Stmt := topS 19
abbrev N_key_weight : List Str := ["key"]
theorem sc_key_weight : FnScope N_key_weight ["key"] (defScope s_key_weight) := ⟨rfl, rfl, rfl, by decide +kernel, rfl, by decide +kernel, by decide +kernel⟩
abbrev s_weigh : Stmt := topS 20
abbrev N_weigh : List Str := ["keys", "key"]
theorem sc_weigh : FnScope N_weigh ["keys"] (defScope s_weigh) := ⟨rfl, rfl, rfl, by decide +kernel, rfl, by decide +kernel, by decide +kernel⟩
abbrev s_is_hand : Stmt := topS 21
abbrev N_is_hand : List Str := ["thing", "key"]
theorem sc_is_hand : FnScope N_is_hand ["thing"] (defScope s_is_hand) := ⟨rfl, rfl, rfl, by decide +kernel, rfl, by decide +kernel, by decide +kernel⟩
abbrev s_check_hand : Stmt := topS 22
abbrev N_check_hand : List Str := ["thing"]
theorem sc_check_hand : FnScope N_check_hand ["thing"] (defScope s_check_hand) := ⟨rfl, rfl, rfl, by decide +kernel, rfl, by decide +kernel, by decide +kernel⟩
abbrev s_is_sheet : Stmt := topS 23
abbrev N_is_sheet : List Str := ["thing"]
theorem sc_is_sheet : FnScope N_is_sheet ["thing"] (defScope s_is_sheet) := ⟨rfl, rfl, rfl, by decide +kernel, rfl, by decide +kernel, by decide +kernel⟩
abbrev s_check_sheet : Stmt := topS 24
abbrev N_check_sheet : List Str := ["thing"]
theorem sc_check_sheet : FnScope N_check_sheet ["thing"] (defScope s_check_sheet) := ⟨rfl, rfl, rfl, by decide +kernel, rfl, by decide +kernel, by decide +kernel⟩
abbrev s_nearest : Stmt := topS 25
abbrev N_nearest : List Str := ["side", "many", "near"]
theorem sc_nearest : FnScope N_nearest ["side", "many"] (defScope s_nearest) := ⟨rfl, rfl, rfl, by decide +kernel, rfl, by decide +kernel, by decide +kernel⟩
abbrev s_take : Stmt := topS 26
abbrev N_take : List Str := ["side", "many", "near"]
theorem sc_take : FnScope N_take ["side", "many"] (defScope s_take) := ⟨rfl, rfl, rfl, by decide +kernel, rfl, by decide +kernel, by decide +kernel⟩
abbrev s_do_key : Stmt := topS 27
abbrev N_do_key : List Str := ["key", "left", "right", "held", "kind"]
theorem sc_do_key : FnScope N_do_key ["key", "left", "right", "held"] (defScope s_do_key) := ⟨rfl, rfl, rfl, by decide +kernel, rfl, by decide +kernel, by decide +kernel⟩
abbrev s_press : Stmt := topS 28
abbrev N_press : List Str := ["sheet", "hand", "times", "words", "cursor", "clip", "left", "right", "held", "_", "key"]
theorem sc_press : FnScope N_press ["sheet", "hand", "times"] (defScope s_press) := ⟨rfl, rfl, rfl, by decide +kernel, rfl, by decide +kernel, by decide +kernel⟩
abbrev s__law_spring : Stmt := topS 30
abbrev N__law_spring : List Str := ["script", "figures", "stir", "cell"]
theorem sc__law_spring : FnScope N__law_spring ["script"] (defScope s__law_spring) := ⟨rfl, rfl, rfl, by decide +kernel, rfl, by decide +kernel, by decide +kernel⟩
abbrev s__law_draw : Stmt := topS 31
abbrev N__law_draw : List Str := ["spring", "many", "found", "stir"]
theorem sc__law_draw : FnScope N__law_draw ["spring", "many"] (defScope s__law_draw) := ⟨rfl, rfl, rfl, by decide +kernel, rfl, by decide +kernel, by decide +kernel⟩
abbrev s__law_same : Stmt := topS 32
abbrev N__law_same : List Str := ["found", "due", "k"]
theorem sc__law_same : FnScope N__law_same ["found", "due"] (defScope s__law_same) := ⟨rfl, rfl, rfl, by decide +kernel, rfl, by decide +kernel, by decide +kernel⟩
abbrev s__law_lists : Stmt := topS 33
abbrev N__law_lists : List Str := ["thing", "inner"]
theorem sc__law_lists : FnScope N__law_lists ["thing"] (defScope s__law_lists) := ⟨rfl, rfl, rfl, by decide +kernel, rfl, by decide +kernel, by decide +kernel⟩
abbrev s__law_handed : Stmt := topS 34
abbrev N__law_handed : List Str := ["spring", "thing", "kind", "one"]
theorem sc__law_handed : FnScope N__law_handed ["spring", "thing"] (defScope s__law_handed) := ⟨rfl, rfl, rfl, by decide +kernel, rfl, by decide +kernel, by decide +kernel⟩
abbrev s__law_word : Stmt := topS 35
abbrev N__law_word : List Str := ["spring", "most", "kinds", "k"]
theorem sc__law_word : FnScope N__law_word ["spring", "most"] (defScope s__law_word) := ⟨rfl, rfl, rfl, by decide +kernel, rfl, by decide +kernel, by decide +kernel⟩
abbrev s__law_hand : Stmt := topS 36
abbrev N__law_hand : List Str := ["spring", "most", "wide", "found", "room", "k", "size", "name"]
theorem sc__law_hand : FnScope N__law_hand ["spring", "most", "wide"] (defScope s__law_hand) := ⟨rfl, rfl, rfl, by decide +kernel, rfl, by decide +kernel, by decide +kernel⟩
abbrev s__law_key : Stmt := topS 37
abbrev N__law_key : List Str := ["sheet", "key", "words", "cursor", "clip", "left", "right", "many"]
theorem sc__law_key : FnScope N__law_key ["sheet", "key"] (defScope s__law_key) := ⟨rfl, rfl, rfl, by decide +kernel, rfl, by decide +kernel, by decide +kernel⟩
abbrev s__law_pressed : Stmt := topS 38
abbrev N__law_pressed : List Str := ["sheet", "hand", "often_so", "turn", "key"]
theorem sc__law_pressed : FnScope N__law_pressed ["sheet", "hand", "often_so"] (defScope s__law_pressed) := ⟨rfl, rfl, rfl, by decide +kernel, rfl, by decide +kernel, by decide +kernel⟩
abbrev s__law_sheet : Stmt := topS 39
abbrev N__law_sheet : List Str := ["spring", "most", "words", "cursor", "clip"]
theorem sc__law_sheet : FnScope N__law_sheet ["spring", "most"] (defScope s__law_sheet) := ⟨rfl, rfl, rfl, by decide +kernel, rfl, by decide +kernel, by decide +kernel⟩
abbrev s__law_heavy : Stmt := topS 40
abbrev N__law_heavy : List Str := ["hand", "key"]
theorem sc__law_heavy : FnScope N__law_heavy ["hand"] (defScope s__law_heavy) := ⟨rfl, rfl, rfl, by decide +kernel, rfl, by decide +kernel, by decide +kernel⟩
abbrev s__law_right : Stmt := topS 41
abbrev N__law_right : List Str := ["sheet", "hand", "handed", "keys", "often_so", "stays", "told", "due"]
theorem sc__law_right : FnScope N__law_right ["sheet", "hand", "handed", "keys", "often_so"] (defScope s__law_right) := ⟨rfl, rfl, rfl, by decide +kernel, rfl, by decide +kernel, by decide +kernel⟩
abbrev s_law : Stmt := topS 42
abbrev N_law : List Str := ["script", "spring", "turn", "sheet", "hand", "keys", "held", "row", "again", "now", "light", "heavy", "pastes", "lot", "at", "key"]
theorem sc_law : FnScope N_law ["script"] (defScope s_law) := ⟨rfl, rfl, rfl, by decide +kernel, rfl, by decide +kernel, by decide +kernel⟩
structure FnT (K : PySem.W.Frag) (mg : Str → Option Value) (x : Str) (st : Stmt) (ps : List Str) : Type where
  f : Addr
  fd : FuncData
  F : Fun K x x st f fd
  g : mg x = some (.ref f)
  b : Binds K fd ps []
structure FnTK (K : PySem.W.Frag) (mg : Str → Option Value) (x : Str) (st : Stmt) (ps : List Str) (n : Nat) (ks : List Str) (dv : List V) : Type where
  f : Addr
  fd : FuncData
  F : Fun K x x st f fd
  g : mg x = some (.ref f)
  ds : List Value
  vd : Vals dv ds
  bd : Binds K fd ps ds
  kb : KBn K fd ps n ks (fun us ws => us ++ ws) (fun vs zs => vs ++ zs)
structure Txt (K : PySem.W.Frag) (mg : Str → Option Value) (w : World) : Type where
  f_is_row : FnT K mg "is_row" s_is_row ["thing"]
  f_is_whole : FnT K mg "is_whole" s_is_whole ["thing", "low"]
  f_is_within : FnT K mg "is_within" s_is_within ["thing", "low", "high"]
  f_is_plain : FnT K mg "is_plain" s_is_plain ["thing"]
  f_is_clip : FnT K mg "is_clip" s_is_clip ["thing"]
  f_is_word : FnT K mg "is_word" s_is_word ["thing"]
  f_is_key : FnT K mg "is_key" s_is_key ["thing"]
  f_key_weight : FnT K mg "key_weight" s_key_weight ["key"]
  f_weigh : FnT K mg "weigh" s_weigh ["keys"]
  f_is_hand : FnT K mg "is_hand" s_is_hand ["thing"]
  f_check_hand : FnT K mg "check_hand" s_check_hand ["thing"]
  f_is_sheet : FnT K mg "is_sheet" s_is_sheet ["thing"]
  f_check_sheet : FnT K mg "check_sheet" s_check_sheet ["thing"]
  f_nearest : FnT K mg "nearest" s_nearest ["side", "many"]
  f_take : FnT K mg "take" s_take ["side", "many"]
  f_do_key : FnT K mg "do_key" s_do_key ["key", "left", "right", "held"]
  f_press : FnTK K mg "press" s_press ["sheet", "hand", "times"] 2 ["times"] [.int 1]
  f__law_spring : FnT K mg "_law_spring" s__law_spring ["script"]
  f__law_draw : FnT K mg "_law_draw" s__law_draw ["spring", "many"]
  f__law_same : FnT K mg "_law_same" s__law_same ["found", "due"]
  f__law_lists : FnT K mg "_law_lists" s__law_lists ["thing"]
  f__law_handed : FnT K mg "_law_handed" s__law_handed ["spring", "thing"]
  f__law_word : FnT K mg "_law_word" s__law_word ["spring", "most"]
  f__law_hand : FnT K mg "_law_hand" s__law_hand ["spring", "most", "wide"]
  f__law_key : FnT K mg "_law_key" s__law_key ["sheet", "key"]
  f__law_pressed : FnT K mg "_law_pressed" s__law_pressed ["sheet", "hand", "often_so"]
  f__law_sheet : FnT K mg "_law_sheet" s__law_sheet ["spring", "most"]
  f__law_heavy : FnT K mg "_law_heavy" s__law_heavy ["hand"]
  f__law_right : FnT K mg "_law_right" s__law_right ["sheet", "hand", "handed", "keys", "often_so"]
  f_law : FnT K mg "law" s_law ["script"]
  b_abs : mg "abs" = none
  b_all : mg "all" = none
  b_bool : mg "bool" = none
  b_int : mg "int" = none
  b_isinstance : mg "isinstance" = none
  b_len : mg "len" = none
  b_list : mg "list" = none
  b_min : mg "min" = none
  b_range : mg "range" = none
  b_repr : mg "repr" = none
  b_str : mg "str" = none
  b_sum : mg "sum" = none
  b_tuple : mg "tuple" = none
  b_type : mg "type" = none
  c_ALPHABET : ∃ t, mg "ALPHABET" = some (.str "abcdefghijklmnopqrstuvwxyz" t)
  c_HEAVIEST : ∃ t, mg "HEAVIEST" = some (.int 60 t)
  c_LONGEST_WORD : ∃ t, mg "LONGEST_WORD" = some (.int 60 t)
  c_MOST_TIMES : ∃ t, mg "MOST_TIMES" = some (.int 300 t)
  c_SIDES : SDict K w mg "SIDES" [("left", "left"), ("rub", "left"), ("right", "right"), ("strike", "right"), ("copy", "right"), ("cut", "right")]
theorem pe_c_ALPHABET {X : Cx} {pos : Pos} (T : Txt X.K X.mg X.w) (hg : Gl X "ALPHABET" := by rfl) : PE X (.Name "ALPHABET" pos) (tC (.str "abcdefghijklmnopqrstuvwxyz")) := by
  obtain ⟨t, e⟩ := T.c_ALPHABET
  exact pe_glob hg e ⟨_, rfl⟩
theorem pe_c_HEAVIEST {X : Cx} {pos : Pos} (T : Txt X.K X.mg X.w) (hg : Gl X "HEAVIEST" := by rfl) : PE X (.Name "HEAVIEST" pos) (tC (.int 60)) := by
  obtain ⟨t, e⟩ := T.c_HEAVIEST
  exact pe_glob hg e ⟨_, rfl⟩
theorem pe_c_LONGEST_WORD {X : Cx} {pos : Pos} (T : Txt X.K X.mg X.w) (hg : Gl X "LONGEST_WORD" := by rfl) : PE X (.Name "LONGEST_WORD" pos) (tC (.int 60)) := by
  obtain ⟨t, e⟩ := T.c_LONGEST_WORD
  exact pe_glob hg e ⟨_, rfl⟩
theorem pe_c_MOST_TIMES {X : Cx} {pos : Pos} (T : Txt X.K X.mg X.w) (hg : Gl X "MOST_TIMES" := by rfl) : PE X (.Name "MOST_TIMES" pos) (tC (.int 300)) := by
  obtain ⟨t, e⟩ := T.c_MOST_TIMES
  exact pe_glob hg e ⟨_, rfl⟩
local macro_rules | `(tactic| walk_at "rd") => `(tactic| try dsimp only [tSeq, tNext, tRet, tRetN, tDrop, tIfS, tAsg, tPar, tAug, tVar, tC, tOp, tUn, tCB, tCons, tNil, tTup, tLst, tCall, tTest, tB, tNot, tAnd, tOr, tAndV, tOrV, tNotV, tIf, tIsN, tNotN, tSl, tPart, tNoPart, tM1, tM0, tBM, tBM0, tChain, gName, gTup, gUnl, gCons, gNil, List.nil_append, List.append_nil, List.cons_append])
section
variable {P : Program} {w : World} {K : PySem.W.Frag} {mg : Str → Option Value} {base : Heap}
/-! ## kinds -/
def spIsRow (K : PySem.W.Frag) : Sp := fun vs H Q _ => ∃ v d, vs = [v] ∧ At K H v d ∧ ∀ H', Same H H' → Q (.bl (isRow d)) H'
theorem ok_is_row (T : Txt K mg w) : FnOk P w K mg base CX0 1 T.f_is_row.f T.f_is_row.fd ["thing"] (spIsRow K) := by
  refine T.f_is_row.F.ok sc_is_row (fun vs H Q E h => ?_) (fun cdv A outer s H vs Q E hr h => ?_)
  · obtain ⟨v, d, rfl, _⟩ := h
    rfl
  obtain ⟨v, d, rfl, hv, q⟩ := h
  refine ⟨_, (pss_one (ps_ret (pe_cmpR op_in_ty (pe_callTy call_type1 (by rfl) T.b_type (by decide +kernel) (pa_cons (pv 0) pa_nil)) (pe_tup (pa_cons (pe_bltn (v := .ty "list") (by rfl) T.b_list (by decide +kernel) rfl) (pa_cons (pe_bltn (v := .ty "tuple") (by rfl) T.b_tuple (by decide +kernel) rfl) pa_nil))) (by rfl)))), ?_⟩
  walk_at "rd"
  refine ⟨v, rfl, v, d.ty, rfl, hv.ty, (by show 2 ≤ sizeLine; decide), fun p hp => ?_⟩
  refine ⟨d.ty, p, ["list", "tuple"], rfl, rfl, SqT.of upd_same, ty_known d, by decide, ?_⟩
  have e : decide (d.ty ∈ ["list", "tuple"]) = isRow d := by cases d <;> simp [Dt.ty, isRow]
  rw [e]
  exact q _ (same_upd hp)

def spIsWhole (K : PySem.W.Frag) : Sp := fun vs H Q _ => ∃ v d lo, vs = [v, .int lo] ∧ At K H v d ∧ Q (.bl (isWhole d lo)) H
theorem ok_is_whole (T : Txt K mg w) : FnOk P w K mg base CX0 1 T.f_is_whole.f T.f_is_whole.fd ["thing", "low"] (spIsWhole K) := by
  refine T.f_is_whole.F.ok sc_is_whole (fun vs H Q E h => ?_) (fun cdv A outer s H vs Q E hr h => ?_)
  · obtain ⟨v, d, lo, rfl, _⟩ := h
    rfl
  obtain ⟨v, d, lo, rfl, hv, q⟩ := h
  refine ⟨_, (pss_one (ps_ret (pe_and (pe_cmpR op_isTyB (pe_callTy call_type1 (by rfl) T.b_type (by decide +kernel) (pa_cons (pv 0) pa_nil)) (pe_bltn (v := .ty "int") (by rfl) T.b_int (by decide +kernel) rfl) (nomark _)) (pe_one (pe_cmpR op_ge (pv 0) (pv 1) (nomark _)))))), ?_⟩
  walk_at "rd"
  refine ⟨v, rfl, v, d.ty, rfl, hv.ty, d.ty, "int", rfl, rfl, _, rfl, ite2 (fun e => ?_) (fun e => ?_)⟩
  · have e2 := of_decide_eq_true e
    cases d with
    | int i =>
      unfold At at hv
      subst hv
      exact ⟨_, rfl, _, rfl, i, lo, rfl, rfl, q⟩
    | _ => exact absurd e2 (by simp [Dt.ty])
  · have e2 : isWhole d lo = false := by
      cases d with
      | int i => exact absurd (decide_eq_true rfl) e
      | _ => rfl
    rw [e2] at q
    exact q

def spIsPlain (K : PySem.W.Frag) : Sp := fun vs H Q _ => ∃ v d, vs = [v] ∧ At K H v d ∧ Q (.bl (isPlain d)) H
theorem ok_is_plain (T : Txt K mg w) : FnOk P w K mg base CX0 1 T.f_is_plain.f T.f_is_plain.fd ["thing"] (spIsPlain K) := by
  refine T.f_is_plain.F.ok sc_is_plain (fun vs H Q E h => ?_) (fun cdv A outer s H vs Q E hr h => ?_)
  · obtain ⟨v, d, rfl, _⟩ := h
    rfl
  obtain ⟨v, d, rfl, hv, q⟩ := h
  refine ⟨_, (pss_one (ps_ret (pe_and (pe_cmpR op_isTyB (pe_callTy call_type1 (by rfl) T.b_type (by decide +kernel) (pa_cons (pv 0) pa_nil)) (pe_bltn (v := .ty "str") (by rfl) T.b_str (by decide +kernel) rfl) (nomark _)) (pe_one (pe_cmpR op_eq (pe_m1 PySem.F.slot_str_strip PySem.F.type_str_strip mt_stripChars (pv 0) (pe_c_ALPHABET T)) pe_str (nomark _)))))), ?_⟩
  walk_at "rd"
  refine ⟨v, rfl, v, d.ty, rfl, hv.ty, d.ty, "str", rfl, rfl, _, rfl, ite2 (fun e => ?_) (fun e => ?_)⟩
  · have e2 := of_decide_eq_true e
    cases d with
    | str x =>
      unfold At at hv
      obtain ⟨rfl, hl⟩ := hv
      refine ⟨_, rfl, ⟨_, rfl⟩, _, _, rfl, rfl, (by rw [tx_len]; exact Nat.le_trans hl (by decide)), rfl, ?_⟩
      have e3 : decide (V.str (Txt.stripChars (tx x) ("abcdefghijklmnopqrstuvwxyz" : Str)) = V.str ("" : Str)) = isPlain (.str x) := by
        rw [← tx_alpha, ← tx_nil, Bool.eq_iff_iff, decide_eq_true_iff]
        have := strip_iff x alpha
        constructor
        · intro h
          exact this.mp (V.str.inj h)
        · intro h
          exact congrArg V.str (this.mpr h)
      rw [e3]
      exact q
    | _ => exact absurd e2 (by simp [Dt.ty])
  · have e2 : isPlain d = false := by
      cases d with
      | str i => exact absurd (decide_eq_true rfl) e
      | _ => rfl
    rw [e2] at q
    exact q

def spIsWithin (K : PySem.W.Frag) : Sp := fun vs H Q _ => ∃ v d lo hi, vs = [v, .int lo, .int hi] ∧ At K H v d ∧ Q (.bl (isWithin d lo hi)) H
theorem ok_is_within (T : Txt K mg w) : FnOk P w K mg base CX0 2 T.f_is_within.f T.f_is_within.fd ["thing", "low", "high"] (spIsWithin K) := by
  refine T.f_is_within.F.ok sc_is_within (fun vs H Q E h => ?_) (fun cdv A outer s H vs Q E hr h => ?_)
  · obtain ⟨v, d, lo, hi, rfl, _⟩ := h
    rfl
  obtain ⟨v, d, lo, hi, rfl, hv, q⟩ := h
  refine ⟨_, (pss_one (ps_ret (pe_and (pe_call (ok_is_whole T) (hr.mono (by decide)) (by rfl) T.f_is_whole.g T.f_is_whole.F.kp T.f_is_whole.b .nil pass0 (pa_cons (pv 0) (pa_cons (pv 1) pa_nil))) (pe_one (pe_cmpR op_le (pv 0) (pv 2) (nomark _)))))), ?_⟩
  walk_at "rd"
  refine ⟨v, rfl, .int lo, rfl, v, d, lo, rfl, hv, _, rfl, ite2 (fun e => ?_) (fun e => ?_)⟩
  · cases d with
    | int i =>
      unfold At at hv
      subst hv
      rw [show isWithin (.int i) lo hi = (isWhole (.int i) lo && decide (i ≤ hi)) from rfl, e, Bool.true_and] at q
      exact ⟨_, rfl, _, rfl, i, hi, rfl, rfl, q⟩
    | _ => exact absurd e (by simp [isWhole])
  · have e2 : isWithin d lo hi = false := by
      cases d with
      | int i =>
        rw [show isWithin (.int i) lo hi = (isWhole (.int i) lo && decide (i ≤ hi)) from rfl, Bool.eq_false_iff.mpr e, Bool.false_and]
      | _ => rfl
    rw [e2] at q
    exact q

def spStr (f : Dt → Bool) (K : PySem.W.Frag) : Sp := fun vs H Q _ => ∃ v d, vs = [v] ∧ At K H v d ∧ Q (.bl (f d)) H
theorem plain_str {d : Dt} (h : isPlain d = true) : ∃ x, d = .str x ∧ x.all (alpha.contains ·) = true := by
  cases d with
  | str x => exact ⟨x, rfl, h⟩
  | _ => cases h
theorem ok_is_clip (T : Txt K mg w) : FnOk P w K mg base CX0 2 T.f_is_clip.f T.f_is_clip.fd ["thing"] (spStr isClip K) := by
  refine T.f_is_clip.F.ok sc_is_clip (fun vs H Q E h => ?_) (fun cdv A outer s H vs Q E hr h => ?_)
  · obtain ⟨v, d, rfl, _⟩ := h
    rfl
  obtain ⟨v, d, rfl, hv, q⟩ := h
  refine ⟨_, (pss_one (ps_ret (pe_and (pe_call (ok_is_plain T) (hr.mono (by decide)) (by rfl) T.f_is_plain.g T.f_is_plain.F.kp T.f_is_plain.b .nil pass0 (pa_cons (pv 0) pa_nil)) (pe_one (pe_cmpR op_le (pe_callB (call_lenK K) (by rfl) T.b_len (by decide +kernel) (pa_cons (pv 0) pa_nil)) (pe_c_LONGEST_WORD T) (nomark _)))))), ?_⟩
  walk_at "rd"
  refine ⟨v, rfl, v, d, rfl, hv, _, rfl, ite2 (fun e => ?_) (fun e => ?_)⟩
  · obtain ⟨x, rfl, hx⟩ := plain_str e
    unfold At at hv
    obtain ⟨rfl, hl⟩ := hv
    refine ⟨_, rfl, len_tx hl ⟨_, _, rfl, rfl, ?_⟩⟩
    have e3 : decide ((x.length : Int) ≤ 60) = isClip (.str x) := by
      rw [show isClip (.str x) = (isPlain (.str x) && decide (x.length ≤ 60)) from rfl, e, Bool.true_and, Bool.eq_iff_iff, decide_eq_true_iff, decide_eq_true_iff]
      omega
    rw [← e3] at q
    exact q
  · have e2 : isClip d = false := by
      cases d with
      | str x =>
        rw [show isClip (.str x) = (isPlain (.str x) && decide (x.length ≤ 60)) from rfl, Bool.eq_false_iff.mpr e, Bool.false_and]
      | _ => rfl
    rw [e2] at q
    exact q
theorem ok_is_word (T : Txt K mg w) : FnOk P w K mg base CX0 3 T.f_is_word.f T.f_is_word.fd ["thing"] (spStr isWord K) := by
  refine T.f_is_word.F.ok sc_is_word (fun vs H Q E h => ?_) (fun cdv A outer s H vs Q E hr h => ?_)
  · obtain ⟨v, d, rfl, _⟩ := h
    rfl
  obtain ⟨v, d, rfl, hv, q⟩ := h
  refine ⟨_, (pss_one (ps_ret (pe_and (pe_call (ok_is_clip T) (hr.mono (by decide)) (by rfl) T.f_is_clip.g T.f_is_clip.F.kp T.f_is_clip.b .nil pass0 (pa_cons (pv 0) pa_nil)) (pe_one (pe_cmpR op_ne (pv 0) pe_str (nomark _)))))), ?_⟩
  walk_at "rd"
  refine ⟨v, rfl, v, d, rfl, hv, _, rfl, ite2 (fun e => ?_) (fun e => ?_)⟩
  · cases d with
    | str x =>
      unfold At at hv
      obtain ⟨rfl, hl⟩ := hv
      refine ⟨_, rfl, rfl, ?_⟩
      have e3 : (!decide (V.str (tx x) = V.str ("" : Str))) = isWord (.str x) := by
        rw [show isWord (.str x) = (isClip (.str x) && decide (x ≠ [])) from rfl, e, Bool.true_and, ← tx_nil, Bool.eq_iff_iff, Bool.not_eq_true', decide_eq_false_iff_not, decide_eq_true_iff, tx_eq]
      rw [e3]
      exact q
    | _ => cases e
  · have e2 : isWord d = false := by
      cases d with
      | str x =>
        rw [show isWord (.str x) = (isClip (.str x) && decide (x ≠ [])) from rfl, Bool.eq_false_iff.mpr e, Bool.false_and]
      | _ => rfl
    rw [e2] at q
    exact q

/-! ## pieces -/
def spIsPiece (f : Dt → Bool) (K : PySem.W.Frag) : Sp := fun vs H Q _ => ∃ v d, vs = [v] ∧ At K H v d ∧ ∀ H', Same H H' → Q (.bl (f d)) H'
def spCheckText (K : PySem.W.Frag) : Sp := fun vs H Q _ => ∃ v d, vs = [v] ∧ At K H v d ∧ isText d = true ∧ ∀ H', Same H H' → Q .non H'
def spCheckLetter (K : PySem.W.Frag) : Sp := fun vs H Q _ => ∃ c, vs = [.str (tx [c])] ∧ alpha.contains c = true ∧ Q .non H

theorem six_neg {n len d : Nat} (h : 1 ≤ n) : HT.sIx len d (some (-(n : Int))) = len - n := by
  show (if (-(n : Int)) < 0 then (-(n : Int) + (len : Int)).toNat else min (-(n : Int)).toNat len) = len - n
  rw [if_pos (by omega)]
  omega
theorem cut_near (xs : List V) {n : Nat} (h : 1 ≤ n) : cutV xs (some (-(n : Int))) none = xs.drop (xs.length - n) := by
  unfold cutV
  rw [six_neg h]
  show (xs.drop (xs.length - n)).take (xs.length - (xs.length - n)) = _
  rw [List.take_of_length_le]
  rw [List.length_drop]
  omega
def spNearest : Sp := fun vs H Q _ => ∃ (a : Addr) (n : Nat) (xs : List V), vs = [.ref a, .int n] ∧ 1 ≤ n ∧ H a = some (.lst xs) ∧ ∀ p, H p = none → Q (.ref p) (upd H p (.lst (near xs n)))
theorem ok_nearest (T : Txt K mg w) : FnOk P w K mg base CX0 1 T.f_nearest.f T.f_nearest.fd ["side", "many"] spNearest := by
  refine T.f_nearest.F.ok sc_nearest (fun vs H Q E h => ?_) (fun cdv A outer s H vs Q E hr h => ?_)
  · obtain ⟨a, n, xs, rfl, _⟩ := h
    rfl
  obtain ⟨a, n, xs, rfl, hn, ha, q⟩ := h
  refine ⟨_, (pss_cons (ps_set (i := 2) sc_nearest.nd rfl (.inl rfl) (pe_slice sl_list (pv 0) (po_some (pe_un un_neg (pv 1))) po_none))
      (pss_cons (ps_expr (pe_bm0 PySem.F.plainAttrs_list PySem.F.slot_list_reverse PySem.F.type_list_reverse mt_reverse (pv 2)))
      (pss_one (ps_ret (pv 2))))), ?_⟩
  walk_at "rd"
  refine ⟨_, rfl, _, rfl, _, rfl, _, rfl, a, xs, rfl, SqL.of ha, fun p hp => ?_⟩
  rw [cut_near xs hn]
  refine ⟨_, rfl, .inl ⟨rfl, _, SqL.of upd_same⟩, p, _, rfl, rfl, upd_same, ?_⟩
  rw [upd_upd]
  exact ⟨_, rfl, q p hp⟩
def spTake : Sp := fun vs H Q _ => ∃ (a : Addr) (n : Nat) (xs : List V), vs = [.ref a, .int n] ∧ 1 ≤ n ∧ H a = some (.lst xs) ∧ ∀ p, H p = none → p ≠ a → Q (.ref p) (upd (upd H p (.lst (near xs n))) a (.lst (rest xs n)))
theorem ok_take (T : Txt K mg w) : FnOk P w K mg base CX0 2 T.f_take.f T.f_take.fd ["side", "many"] spTake := by
  refine T.f_take.F.ok sc_take (fun vs H Q E h => ?_) (fun cdv A outer s H vs Q E hr h => ?_)
  · obtain ⟨a, n, xs, rfl, _⟩ := h
    rfl
  obtain ⟨a, n, xs, rfl, hn, ha, q⟩ := h
  refine ⟨_, (pss_cons (ps_set (i := 2) sc_take.nd rfl (.inl rfl) (pe_call (ok_nearest T) (hr.mono (by decide)) (by rfl) T.f_nearest.g T.f_nearest.F.kp T.f_nearest.b .nil pass0 (pa_cons (pv 0) (pa_cons (pv 1) pa_nil))))
      (pss_cons (ps_delS (pv 0) (po_some (pe_un un_neg (pv 1))))
      (pss_one (ps_ret (pv 2))))), ?_⟩
  walk_at "rd"
  refine ⟨_, rfl, _, rfl, a, n, xs, rfl, hn, ha, fun p hp => ?_⟩
  have hpa : p ≠ a := fun e => by rw [e, ha] at hp; cases hp
  refine ⟨_, rfl, _, rfl, _, rfl, _, rfl, a, xs, rfl, (by rw [upd_ne hpa.symm]; exact ha), ?_⟩
  rw [six_neg hn]
  exact ⟨_, rfl, q p hp hpa⟩
theorem st_no {x y : Str} {A B : Prop} (h : x ≠ y) (b : B) : ∃ k, V.bl (decide (V.str x = V.str y)) = .bl k ∧ if k = true then A else B := ⟨_, rfl, by rw [decide_eq_false (fun e => h (V.str.inj e)), if_neg Bool.false_ne_true]; exact b⟩
theorem st_yes {x : Str} {A B : Prop} (a : A) : ∃ k, V.bl (decide (V.str x = V.str x)) = .bl k ∧ if k = true then A else B := ⟨_, rfl, by rw [decide_eq_true rfl, if_pos rfl]; exact a⟩
def sdV (s : Sd V) (H : Hp) (a b c : Addr) : Prop := H a = some (.lst s.l) ∧ H b = some (.lst s.r) ∧ H c = some (.lst s.c) ∧ a ≠ b ∧ a ≠ c ∧ b ≠ c
def spDoKey (K : PySem.W.Frag) : Sp := fun vs H Q _ => ∃ (kv : V) (k : Ky) (a b c : Addr) (s : Sd V), vs = [kv, .ref a, .ref b, .ref c] ∧ KeyAt K H kv k ∧ k.ok ∧ sdV s H a b c ∧ s.size + s.c.length + 60 ≤ 2000000 ∧
  ∀ p H', (∀ x o, x ≠ a → x ≠ b → H x = some o → H' x = some o) → sdV (step lV k s) H' a b p → Q (.ref p) H'
theorem ok_do_key (T : Txt K mg w) : FnOk P w K mg base CX0 3 T.f_do_key.f T.f_do_key.fd ["key", "left", "right", "held"] (spDoKey K) := by
  refine T.f_do_key.F.ok sc_do_key (fun vs H Q E h => ?_) (fun cdv A outer s H vs Q E hr h => ?_)
  · obtain ⟨kv, k, a, b, c, s, rfl, _⟩ := h
    rfl
  obtain ⟨kv, k, a, b, c, s, rfl, ⟨u, rfl, hk⟩, hok, ⟨ha, hb, hc, hab, hac, hbc⟩, hz, q⟩ := h
  refine ⟨_, (pss_cons (ps_set (i := 4) sc_do_key.nd rfl (.inl rfl) (pe_ix ix_seq (pv 0) pe_int (fun _ _ => rfl)))
      (pss_cons (ps_if (pt_cmpR op_eq (pv 4) pe_str (nomark _)) (pss_one (ps_expr (pe_bm PySem.F.plainAttrs_list PySem.F.slot_list_extend PySem.F.type_list_extend mt_extend (pv 1) (pa_cons (pe_callTy (call_listS rfl) (by rfl) T.b_list (by decide +kernel) (pa_cons (pe_ix ix_seq (pv 0) pe_int (fun _ _ => rfl)) pa_nil)) pa_nil)))) (pss_one (ps_if (pt_cmpR op_eq (pv 4) pe_str (nomark _)) (pss_one (ps_expr (pe_bm PySem.F.plainAttrs_list PySem.F.slot_list_extend PySem.F.type_list_extend mt_extend (pv 1) (pa_cons (pv 3) pa_nil)))) (pss_one (ps_if (pt_cmpR op_eq (pv 4) pe_str (nomark _)) (pss_one (ps_expr (pe_bm PySem.F.plainAttrs_list PySem.F.slot_list_extend PySem.F.type_list_extend mt_extend (pv 2) (pa_cons (pe_call (ok_take T) (hr.mono (by decide)) (by rfl) T.f_take.g T.f_take.F.kp T.f_take.b .nil pass0 (pa_cons (pv 1) (pa_cons (pe_ix ix_seq (pv 0) pe_int (fun _ _ => rfl)) pa_nil))) pa_nil)))) (pss_one (ps_if (pt_cmpR op_eq (pv 4) pe_str (nomark _)) (pss_one (ps_expr (pe_bm PySem.F.plainAttrs_list PySem.F.slot_list_extend PySem.F.type_list_extend mt_extend (pv 1) (pa_cons (pe_call (ok_take T) (hr.mono (by decide)) (by rfl) T.f_take.g T.f_take.F.kp T.f_take.b .nil pass0 (pa_cons (pv 2) (pa_cons (pe_ix ix_seq (pv 0) pe_int (fun _ _ => rfl)) pa_nil))) pa_nil)))) (pss_one (ps_if (pt_cmpR op_eq (pv 4) pe_str (nomark _)) (pss_one (ps_expr (pe_call (ok_take T) (hr.mono (by decide)) (by rfl) T.f_take.g T.f_take.F.kp T.f_take.b .nil pass0 (pa_cons (pv 1) (pa_cons (pe_ix ix_seq (pv 0) pe_int (fun _ _ => rfl)) pa_nil))))) (pss_one (ps_if (pt_cmpR op_eq (pv 4) pe_str (nomark _)) (pss_one (ps_expr (pe_call (ok_take T) (hr.mono (by decide)) (by rfl) T.f_take.g T.f_take.F.kp T.f_take.b .nil pass0 (pa_cons (pv 2) (pa_cons (pe_ix ix_seq (pv 0) pe_int (fun _ _ => rfl)) pa_nil))))) (pss_one (ps_if (pt_cmpR op_eq (pv 4) pe_str (nomark _)) (pss_one (ps_ret (pe_call (ok_nearest T) (hr.mono (by decide)) (by rfl) T.f_nearest.g T.f_nearest.F.kp T.f_nearest.b .nil pass0 (pa_cons (pv 2) (pa_cons (pe_ix ix_seq (pv 0) pe_int (fun _ _ => rfl)) pa_nil))))) (pss_one (ps_ret (pe_call (ok_take T) (hr.mono (by decide)) (by rfl) T.f_take.g T.f_take.F.kp T.f_take.b .nil pass0 (pa_cons (pv 2) (pa_cons (pe_ix ix_seq (pv 0) pe_int (fun _ _ => rfl)) pa_nil))))))))))))))))))
      (pss_one (ps_ret (pv 3))))), ?_⟩
  walk_at "rd"
  unfold Sd.size at hz
  have fr : ∀ {x p : Addr} {o : HO}, H p = none → H x = some o → x ≠ p := fun hp hx e => by rw [e, hp] at hx; cases hx
  have big : ∀ {m : Nat}, m ≤ 2000000 → m ≤ sizeLine := fun h => Nat.le_trans h (by decide)
  cases k with
  | write w =>
    refine ⟨_, rfl, ix_row hk (at_ofA (j := 0) rfl rfl) ⟨_, rfl, rfl, st_yes ?_⟩⟩
    walk_at "rd"
    refine ⟨_, rfl, .inl ⟨rfl, _, SqL.of ha⟩, _, rfl, ix_row hk (at_ofA (j := 1) rfl rfl) ⟨tx w, rfl, ?_, fun p hp => ?_⟩⟩
    · rw [← Array.length_toList, tx_cps]
      have := hok.2.1
      exact big (by omega)
    · rw [tx_cps]
      refine ⟨a, p, s.l, w.map lV, rfl, rfl, by rw [upd_ne (fr hp ha)]; exact ha, upd_same, big ?_, _, rfl, q c _ (fun x o xa xb hx => ?_) ⟨upd_same, ?_, ?_, hab, hac, hbc⟩⟩
      · rw [List.length_map]
        have := hok.2.1
        omega
      · rw [upd_ne xa, upd_ne (fr hp hx)]
        exact hx
      · rw [upd_ne hab.symm, upd_ne (fr hp hb)]
        exact hb
      · rw [upd_ne hac.symm, upd_ne (fr hp hc)]
        exact hc
  | paste =>
    refine ⟨_, rfl, ix_row hk (at_ofA (j := 0) rfl rfl) ⟨_, rfl, rfl, st_no (by decide) ⟨_, rfl, rfl, st_yes ?_⟩⟩⟩
    walk_at "rd"
    refine ⟨_, rfl, .inl ⟨rfl, _, SqL.of ha⟩, _, rfl, a, c, s.l, s.c, rfl, rfl, ha, hc, big (by omega), _, rfl, q c _ (fun x o xa xb hx => ?_) ⟨upd_same, ?_, ?_, hab, hac, hbc⟩⟩
    · rw [upd_ne xa]
      exact hx
    · rw [upd_ne hab.symm]
      exact hb
    · rw [upd_ne hac.symm]
      exact hc
  | left n =>
    refine ⟨_, rfl, ix_row hk (at_ofA (j := 0) rfl rfl) ⟨_, rfl, rfl, st_no (by decide) ⟨_, rfl, rfl, st_no (by decide) ⟨_, rfl, rfl, st_yes ?_⟩⟩⟩⟩
    walk_at "rd"
    refine ⟨_, rfl, .inl ⟨rfl, _, SqL.of hb⟩, _, rfl, _, rfl, ix_row hk (at_ofA (j := 1) rfl rfl) ⟨a, n, s.l, rfl, hok, ha, fun p hp hpa => ?_⟩⟩
    refine ⟨b, p, s.r, near s.l n, rfl, rfl, by rw [upd_ne hab.symm, upd_ne (fr hp hb)]; exact hb, by rw [upd_ne hpa, upd_same], big ?_, _, rfl, q c _ (fun x o xa xb hx => ?_) ⟨?_, upd_same, ?_, hab, hac, hbc⟩⟩
    · rw [near_len]
      omega
    · rw [upd_ne xb, upd_ne xa, upd_ne (fr hp hx)]
      exact hx
    · rw [upd_ne hab, upd_same]
      rfl
    · rw [upd_ne hbc.symm, upd_ne hac.symm, upd_ne (fr hp hc)]
      exact hc
  | right n =>
    refine ⟨_, rfl, ix_row hk (at_ofA (j := 0) rfl rfl) ⟨_, rfl, rfl, st_no (by decide) ⟨_, rfl, rfl, st_no (by decide) ⟨_, rfl, rfl, st_no (by decide) ⟨_, rfl, rfl, st_yes ?_⟩⟩⟩⟩⟩
    walk_at "rd"
    refine ⟨_, rfl, .inl ⟨rfl, _, SqL.of ha⟩, _, rfl, _, rfl, ix_row hk (at_ofA (j := 1) rfl rfl) ⟨b, n, s.r, rfl, hok, hb, fun p hp hpb => ?_⟩⟩
    refine ⟨a, p, s.l, near s.r n, rfl, rfl, by rw [upd_ne hab, upd_ne (fr hp ha)]; exact ha, by rw [upd_ne hpb, upd_same], big ?_, _, rfl, q c _ (fun x o xa xb hx => ?_) ⟨upd_same, ?_, ?_, hab, hac, hbc⟩⟩
    · rw [near_len]
      omega
    · rw [upd_ne xa, upd_ne xb, upd_ne (fr hp hx)]
      exact hx
    · rw [upd_ne hab.symm, upd_same]
      rfl
    · rw [upd_ne hac.symm, upd_ne hbc.symm, upd_ne (fr hp hc)]
      exact hc
  | rub n =>
    refine ⟨_, rfl, ix_row hk (at_ofA (j := 0) rfl rfl) ⟨_, rfl, rfl, st_no (by decide) ⟨_, rfl, rfl, st_no (by decide) ⟨_, rfl, rfl, st_no (by decide) ⟨_, rfl, rfl, st_no (by decide) ⟨_, rfl, rfl, st_yes ?_⟩⟩⟩⟩⟩⟩
    walk_at "rd"
    refine ⟨_, rfl, _, rfl, ix_row hk (at_ofA (j := 1) rfl rfl) ⟨a, n, s.l, rfl, hok, ha, fun p hp hpa => ?_⟩⟩
    refine ⟨_, rfl, q c _ (fun x o xa xb hx => ?_) ⟨upd_same, ?_, ?_, hab, hac, hbc⟩⟩
    · rw [upd_ne xa, upd_ne (fr hp hx)]
      exact hx
    · rw [upd_ne hab.symm, upd_ne (fr hp hb)]
      exact hb
    · rw [upd_ne hac.symm, upd_ne (fr hp hc)]
      exact hc
  | strike n =>
    refine ⟨_, rfl, ix_row hk (at_ofA (j := 0) rfl rfl) ⟨_, rfl, rfl, st_no (by decide) ⟨_, rfl, rfl, st_no (by decide) ⟨_, rfl, rfl, st_no (by decide) ⟨_, rfl, rfl, st_no (by decide) ⟨_, rfl, rfl, st_no (by decide) ⟨_, rfl, rfl, st_yes ?_⟩⟩⟩⟩⟩⟩⟩
    walk_at "rd"
    refine ⟨_, rfl, _, rfl, ix_row hk (at_ofA (j := 1) rfl rfl) ⟨b, n, s.r, rfl, hok, hb, fun p hp hpb => ?_⟩⟩
    refine ⟨_, rfl, q c _ (fun x o xa xb hx => ?_) ⟨?_, upd_same, ?_, hab, hac, hbc⟩⟩
    · rw [upd_ne xb, upd_ne (fr hp hx)]
      exact hx
    · rw [upd_ne hab, upd_ne (fr hp ha)]
      exact ha
    · rw [upd_ne hbc.symm, upd_ne (fr hp hc)]
      exact hc
  | copy n =>
    refine ⟨_, rfl, ix_row hk (at_ofA (j := 0) rfl rfl) ⟨_, rfl, rfl, st_no (by decide) ⟨_, rfl, rfl, st_no (by decide) ⟨_, rfl, rfl, st_no (by decide) ⟨_, rfl, rfl, st_no (by decide) ⟨_, rfl, rfl, st_no (by decide) ⟨_, rfl, rfl, st_no (by decide) ⟨_, rfl, rfl, st_yes ?_⟩⟩⟩⟩⟩⟩⟩⟩
    walk_at "rd"
    refine ⟨_, rfl, _, rfl, ix_row hk (at_ofA (j := 1) rfl rfl) ⟨b, n, s.r, rfl, hok, hb, fun p hp => ?_⟩⟩
    refine q p _ (fun x o xa xb hx => ?_) ⟨?_, ?_, upd_same, hab, fr hp ha, fr hp hb⟩
    · rw [upd_ne (fr hp hx)]
      exact hx
    · rw [upd_ne (fr hp ha)]
      exact ha
    · rw [upd_ne (fr hp hb)]
      exact hb
  | cut n =>
    refine ⟨_, rfl, ix_row hk (at_ofA (j := 0) rfl rfl) ⟨_, rfl, rfl, st_no (by decide) ⟨_, rfl, rfl, st_no (by decide) ⟨_, rfl, rfl, st_no (by decide) ⟨_, rfl, rfl, st_no (by decide) ⟨_, rfl, rfl, st_no (by decide) ⟨_, rfl, rfl, st_no (by decide) ⟨_, rfl, rfl, st_no (by decide) ?_⟩⟩⟩⟩⟩⟩⟩⟩
    walk_at "rd"
    refine ⟨_, rfl, _, rfl, ix_row hk (at_ofA (j := 1) rfl rfl) ⟨b, n, s.r, rfl, hok, hb, fun p hp hpb => ?_⟩⟩
    refine q p _ (fun x o xa xb hx => ?_) ⟨?_, upd_same, by rw [upd_ne hpb, upd_same]; rfl, hab, fr hp ha, fr hp hb⟩
    · rw [upd_ne xb, upd_ne (fr hp hx)]
      exact hx
    · rw [upd_ne hab, upd_ne (fr hp ha)]
      exact ha

theorem prd_rel {α β : Type} {R : α → β → Prop} : ∀ {xs : List α} {ys : List β} {i : Nat} {x : α} {y : β}, Paired R xs ys → xs[i]? = some x → ys[i]? = some y → R x y
  | _, _, i, x, y, .nil, h, _ => by simp at h
  | _, _, 0, x, y, .cons r _, h1, h2 => by
    have e1 := Option.some.inj h1
    have e2 := Option.some.inj h2
    rw [← e1, ← e2]
    exact r
  | _, _, i + 1, x, y, .cons _ t, h1, h2 => prd_rel t (by simpa using h1) (by simpa using h2)
def spKeyWeight (K : PySem.W.Frag) : Sp := fun vs H Q _ => ∃ kv k, vs = [kv] ∧ KeyAt K H kv k ∧ k.ok ∧ Q (.int k.wt) H
theorem ok_key_weight (T : Txt K mg w) : FnOk P w K mg base CX0 1 T.f_key_weight.f T.f_key_weight.fd ["key"] (spKeyWeight K) := by
  refine T.f_key_weight.F.ok sc_key_weight (fun vs H Q E h => ?_) (fun cdv A outer s H vs Q E hr h => ?_)
  · obtain ⟨kv, k, rfl, _⟩ := h
    rfl
  obtain ⟨kv, k, rfl, ⟨u, rfl, hk⟩, hok, q⟩ := h
  refine ⟨_, (pss_cons (ps_if (pt_cmpR op_eq (pe_ix ix_seq (pv 0) pe_int (fun _ _ => rfl)) pe_str (nomark _)) (pss_one (ps_ret pe_int)) pss_nil)
      (pss_cons (ps_if (pt_cmpR op_eq (pe_ix ix_seq (pv 0) pe_int (fun _ _ => rfl)) pe_str (nomark _)) (pss_one (ps_ret (pe_callB (call_lenK K) (by rfl) T.b_len (by decide +kernel) (pa_cons (pe_ix ix_seq (pv 0) pe_int (fun _ _ => rfl)) pa_nil)))) pss_nil)
      (pss_one (ps_ret (pe_ix ix_seq (pv 0) pe_int (fun _ _ => rfl)))))), ?_⟩
  walk_at "rd"
  cases k with
  | write w => exact ⟨_, rfl, ix_row hk (at_ofA (j := 0) rfl rfl) ⟨rfl, st_no (by decide) ⟨_, rfl, ix_row hk (at_ofA (j := 0) rfl rfl) ⟨rfl, st_yes ⟨_, rfl, ix_row hk (at_ofA (j := 1) rfl rfl) (len_tx (Nat.le_trans hok.2.1 (by decide)) q)⟩⟩⟩⟩⟩
  | paste => exact ⟨_, rfl, ix_row hk (at_ofA (j := 0) rfl rfl) ⟨rfl, st_yes q⟩⟩
  | left n | right n | strike n | rub n | copy n | cut n => exact ⟨_, rfl, ix_row hk (at_ofA (j := 0) rfl rfl) ⟨rfl, st_no (by decide) ⟨_, rfl, ix_row hk (at_ofA (j := 0) rfl rfl) ⟨rfl, st_no (by decide) ⟨_, rfl, ix_row hk (at_ofA (j := 1) rfl rfl) q⟩⟩⟩⟩⟩
def spWeigh (K : PySem.W.Frag) : Sp := fun vs H Q _ => ∃ hv ks, vs = [hv] ∧ HandAt K H hv ks ∧ (∀ k ∈ ks, k.ok) ∧ ks.length ≤ 60 ∧ ∀ H', Same H H' → Q (.int (hwt ks : Nat)) H'
theorem hwt_sum : ∀ ks : List Ky, (ks.map fun k => (k.wt : Int)).sum = (hwt ks : Nat)
  | [] => rfl
  | k :: ks => by
    rw [List.map_cons, List.sum_cons, hwt_sum ks, hwt_cons]
    omega
theorem ok_weigh (T : Txt K mg w) : FnOk P w K mg base CX0 2 T.f_weigh.f T.f_weigh.fd ["keys"] (spWeigh K) := by
  refine T.f_weigh.F.ok sc_weigh (fun vs H Q E h => ?_) (fun cdv A outer s H vs Q E hr h => ?_)
  · obtain ⟨hv, ks, rfl, _⟩ := h
    rfl
  obtain ⟨hv, ks, rfl, ⟨a, xs, rfl, hrow, hp⟩, hok, hl, q⟩ := h
  refine ⟨_, (pss_one (ps_ret (pe_callB (cr_sum rfl) (by rfl) T.b_sum (by decide +kernel) (pa_cons (pe_lc (own := [("key", 1)]) rfl sc_weigh.nd (pi_seq (pv 0)) (blkOk_by (own := [("key", 1)]) (N := N_weigh) (sc := defScope s_weigh) (by decide +kernel)) (fun _ _ _ _ _ => (pg_name (i := 1) sc_weigh.nd rfl (.inl rfl))) (fun _ _ _ _ _ => pts_nil) (fun _ _ _ _ _ => (pe_call (ok_key_weight T) (hr.mono (by decide)) (by rfl) T.f_key_weight.g T.f_key_weight.F.kp T.f_key_weight.b .nil pass0 (pa_cons (pv 1) pa_nil)))) pa_nil)))), ?_⟩
  walk_at "rd"
  have hlen : xs.length = ks.length := prd_len hp
  refine lc_rowN (a := a) (xs := xs) (ys := (ks.map fun k => (k.wt : Int)).map V.int) rfl hrow (by rw [List.length_map, List.length_map]; exact hlen) ?_ (fun _ => rfl) (fun _ _ _ h => h) (fun i x y H' hx hy s1 R hR => ?_) (fun D H' s1 nD hD => ?_)
  · rw [List.length_map, List.length_map]
    exact Nat.lt_of_le_of_lt hl (by decide)
  · obtain ⟨k, hk, r⟩ := prd_at hp hx
    rw [List.getElem?_map, List.getElem?_map, hk] at hy
    have hy := Option.some.inj hy
    subst hy
    exact ⟨_, rfl, x, k, rfl, r.same s1, hok k (List.mem_of_getElem? hk), hR _ (Same.refl _)⟩
  · refine ⟨D, _, rfl, SqL.of hD, ?_⟩
    rw [hwt_sum]
    exact q _ s1

def nm (z : Str) : List Nat := z.cps.toList
def Ky.kn : Ky → Str
  | .write _ => "write"
  | .paste => "paste"
  | .left _ => "left"
  | .right _ => "right"
  | .strike _ => "strike"
  | .rub _ => "rub"
  | .copy _ => "copy"
  | .cut _ => "cut"
theorem kn_names : ∀ z ∈ (["write", "paste", "left", "right", "strike", "rub", "copy", "cut"] : List Str), (nm z).all (alpha.contains ·) = true ∧ (nm z).length ≤ 10 := by decide +kernel
theorem kn_plain (k : Ky) : (nm k.kn).all (alpha.contains ·) = true ∧ (nm k.kn).length ≤ 1000000 := by
  have h := kn_names k.kn (by cases k <;> simp [Ky.kn])
  exact ⟨h.1, Nat.le_trans h.2 (by decide)⟩
def kD : Ky → List Dt
  | .write w => [.str (nm "write"), .str w]
  | .paste => [.str (nm "paste")]
  | .left n => [.str (nm "left"), .int n]
  | .right n => [.str (nm "right"), .int n]
  | .strike n => [.str (nm "strike"), .int n]
  | .rub n => [.str (nm "rub"), .int n]
  | .copy n => [.str (nm "copy"), .int n]
  | .cut n => [.str (nm "cut"), .int n]
theorem at_str {K : PySem.W.Frag} {H : Hp} (z : Str) (h : (nm z).length ≤ 1000000) : At K H (.str z) (.str (nm z)) := by
  unfold At
  exact ⟨by unfold nm; rw [tx_of], h⟩
theorem ats_key {K : PySem.W.Frag} {H : Hp} (k : Ky) (hk : k.ok) : Ats K H k.vs (kD k) := by
  have h1 := (kn_plain k).2
  have hi : ∀ n : Nat, At K H (.int n) (.int n) := fun n => by unfold At; rfl
  have h0 : Ats K H [] [] := by unfold Ats; rfl
  have h2 : ∀ {v u : V} {c d : Dt}, At K H v c → At K H u d → Ats K H [v, u] [c, d] := fun a b => by
    unfold Ats
    refine ⟨_, _, rfl, a, ?_⟩
    unfold Ats
    exact ⟨_, _, rfl, b, h0⟩
  cases k with
  | write w => exact h2 (at_str "write" h1) (by unfold At; exact ⟨rfl, Nat.le_trans hk.2.1 (by decide)⟩)
  | paste =>
    show Ats K H [.str "paste"] [.str (nm "paste")]
    unfold Ats
    exact ⟨_, _, rfl, at_str "paste" h1, h0⟩
  | left n => exact h2 (at_str "left" h1) (hi n)
  | right n => exact h2 (at_str "right" h1) (hi n)
  | strike n => exact h2 (at_str "strike" h1) (hi n)
  | rub n => exact h2 (at_str "rub" h1) (hi n)
  | copy n => exact h2 (at_str "copy" h1) (hi n)
  | cut n => exact h2 (at_str "cut" h1) (hi n)
theorem at_key {K : PySem.W.Frag} {H : Hp} {v : V} {k : Ky} (h : KeyAt K H v k) (hk : k.ok) : ∃ d, At K H v d ∧ isRow d = true := by
  obtain ⟨a, rfl, h⟩ := h
  rcases h with h | h
  · exact ⟨.lst (kD k), by unfold At; exact ⟨a, _, rfl, h, ats_key k hk⟩, rfl⟩
  · exact ⟨.tup (kD k), by unfold At; exact ⟨a, _, rfl, h, ats_key k hk⟩, rfl⟩
theorem vs_0 : ∀ k : Ky, k.vs[0]? = some (.str k.kn)
  | .write _ | .paste | .left _ | .right _ | .strike _ | .rub _ | .copy _ | .cut _ => rfl
theorem vs_len (k : Ky) : ¬ ((k.vs.length : Int) = 0) := by cases k <;> simp [Ky.vs] <;> omega
theorem iteN {A B : Prop} {b : Bool} (h : b = false) (q : B) : (if b = true then A else B) := by rw [h, if_neg Bool.false_ne_true]; exact q
theorem iteY {A B : Prop} {b : Bool} (h : b = true) (q : A) : (if b = true then A else B) := by rw [h, if_pos rfl]; exact q
def spIsKey (K : PySem.W.Frag) : Sp := fun vs H Q _ => ∃ kv k, vs = [kv] ∧ KeyAt K H kv k ∧ k.ok ∧ ∀ H', Same H H' → Q (.bl true) H'
theorem ok_is_key (T : Txt K mg w) : FnOk P w K mg base CX0 4 T.f_is_key.f T.f_is_key.fd ["thing"] (spIsKey K) := by
  refine T.f_is_key.F.ok sc_is_key (fun vs H Q E h => ?_) (fun cdv A outer s H vs Q E hr h => ?_)
  · obtain ⟨kv, k, rfl, _⟩ := h
    rfl
  obtain ⟨kv, k, rfl, hk, hok, q⟩ := h
  obtain ⟨d, hd, hd2⟩ := at_key hk hok
  obtain ⟨u, rfl, hrow⟩ := hk
  refine ⟨_, (pss_cons (ps_if (PW.pt (pw_or (pt_not (pt_val (pe_call (ok_is_row T) (hr.mono (by decide)) (by rfl) T.f_is_row.g T.f_is_row.F.kp T.f_is_row.b .nil pass0 (pa_cons (pv 0) pa_nil)))) (pw_or (pt_cmpR op_eq (pe_callB (call_lenK K) (by rfl) T.b_len (by decide +kernel) (pa_cons (pv 0) pa_nil)) pe_int (nomark _)) (pw_or1 (pt_not (pt_val (pe_call (ok_is_plain T) (hr.mono (by decide)) (by rfl) T.f_is_plain.g T.f_is_plain.F.kp T.f_is_plain.b .nil pass0 (pa_cons (pe_ix ix_seq (pv 0) pe_int (fun _ _ => rfl)) pa_nil)))))))) (pss_one (ps_ret pe_bl)) pss_nil)
      (pss_cons (ps_if (pt_cmpR op_eq (pe_ix ix_seq (pv 0) pe_int (fun _ _ => rfl)) pe_str (nomark _)) (pss_one (ps_ret (pe_cmpR op_eq (pe_callB (call_lenK K) (by rfl) T.b_len (by decide +kernel) (pa_cons (pv 0) pa_nil)) pe_int (nomark _)))) pss_nil)
      (pss_cons (ps_if (pt_cmpR op_ne (pe_callB (call_lenK K) (by rfl) T.b_len (by decide +kernel) (pa_cons (pv 0) pa_nil)) pe_int (nomark _)) (pss_one (ps_ret pe_bl)) pss_nil)
      (pss_cons (ps_if (pt_cmpR op_eq (pe_ix ix_seq (pv 0) pe_int (fun _ _ => rfl)) pe_str (nomark _)) (pss_one (ps_ret (pe_call (ok_is_word T) (hr.mono (by decide)) (by rfl) T.f_is_word.g T.f_is_word.F.kp T.f_is_word.b .nil pass0 (pa_cons (pe_ix ix_seq (pv 0) pe_int (fun _ _ => rfl)) pa_nil)))) pss_nil)
      (pss_one (ps_ret (pe_and (pe_cmpR (op_in_sd T.c_SIDES) (pe_ix ix_seq (pv 0) pe_int (fun _ _ => rfl)) (pe_sd T.c_SIDES (by rfl) (by decide)) (by rfl)) (pe_one (pe_call (ok_is_whole T) (hr.mono (by decide)) (by rfl) T.f_is_whole.g T.f_is_whole.F.kp T.f_is_whole.b .nil pass0 (pa_cons (pe_ix ix_seq (pv 0) pe_int (fun _ _ => rfl)) (pa_cons pe_int pa_nil))))))))))), ?_⟩
  walk_at "rd"
  refine ⟨_, rfl, _, d, rfl, hd, fun H1 s1 => ⟨_, rfl, ?_⟩⟩
  have hrow1 := hrow.same s1
  rw [hd2]
  refine iteN rfl ⟨_, rfl, len_row hrow1 ⟨rfl, _, rfl, iteN (decide_eq_false (fun e => vs_len k (V.int.inj e))) ⟨_, rfl, ix_row hrow1 (at_ofA (j := 0) rfl (vs_0 k)) ⟨_, _, rfl, at_str k.kn (kn_plain k).2, _, rfl, ?_⟩⟩⟩⟩
  have hp : isPlain (.str (nm k.kn)) = true := (kn_plain k).1
  rw [hp]
  refine iteN rfl ?_
  have two : ∀ {x y : V}, Row K H1 u [x, y] → ∀ {A : Prop} {R : VK}, (∀ b, b = false → R (.bl b) H1) → rLenA K [.ref u] H1 fun x H1 => rNe x (V.int 2) H1 R := fun h _ R q => len_row h ⟨rfl, q _ (by rw [decide_eq_true (show V.int (([_, _] : List V).length : Int) = V.int 2 from rfl)]; rfl)⟩
  cases k with
  | write w =>
    refine ⟨_, rfl, ix_row hrow1 (at_ofA (j := 0) rfl rfl) ⟨rfl, st_no (by decide) ⟨_, rfl, two hrow1 (A := True) fun b hb => ⟨_, rfl, iteN hb ⟨_, rfl, ix_row hrow1 (at_ofA (j := 0) rfl rfl) ⟨rfl, st_yes ?_⟩⟩⟩⟩⟩⟩
    refine ⟨_, rfl, ix_row hrow1 (at_ofA (j := 1) rfl rfl) ⟨_, .str w, rfl, by unfold At; exact ⟨rfl, Nat.le_trans hok.2.1 (by decide)⟩, ?_⟩⟩
    have e : isWord (.str w) = true := by
      show ((w.all (alpha.contains ·) && decide (w.length ≤ 60)) && decide (w ≠ [])) = true
      rw [show w.all (alpha.contains ·) = true from hok.2.2, decide_eq_true hok.2.1, decide_eq_true hok.1]
      rfl
    rw [e]
    exact q _ s1
  | paste =>
    refine ⟨_, rfl, ix_row hrow1 (at_ofA (j := 0) rfl rfl) ⟨rfl, st_yes ⟨_, rfl, len_row hrow1 ⟨rfl, ?_⟩⟩⟩⟩
    rw [decide_eq_true (show V.int ((Ky.paste.vs.length : Nat) : Int) = V.int 1 from rfl)]
    exact q _ s1
  | left n | right n | strike n | rub n | copy n | cut n =>
    refine ⟨_, rfl, ix_row hrow1 (at_ofA (j := 0) rfl rfl) ⟨rfl, st_no (by decide) ⟨_, rfl, two hrow1 (A := True) fun b hb => ⟨_, rfl, iteN hb ⟨_, rfl, ix_row hrow1 (at_ofA (j := 0) rfl rfl) ⟨rfl, st_no (by decide) ?_⟩⟩⟩⟩⟩⟩
    refine ⟨_, rfl, ix_row hrow1 (at_ofA (j := 0) rfl rfl) ⟨_, rfl, rfl, _, rfl, iteY (by decide) ?_⟩⟩
    refine ⟨_, rfl, ix_row hrow1 (at_ofA (j := 1) rfl rfl) ⟨_, .int n, 1, rfl, by unfold At; rfl, ?_⟩⟩
    have hn : 1 ≤ n := hok
    rw [show isWhole (.int n) 1 = true from decide_eq_true (by omega)]
    exact q _ s1
theorem at_hand {K : PySem.W.Frag} {H : Hp} {v : V} {ks : List Ky} (h : HandAt K H v ks) (hk : ∀ k ∈ ks, k.ok) : ∃ d, At K H v d ∧ isRow d = true := by
  obtain ⟨a, xs, rfl, h, hp⟩ := h
  have hx : ∃ ds, Ats K H xs ds := by
    clear h
    induction hp with
    | nil => exact ⟨[], by unfold Ats; rfl⟩
    | cons r t ih =>
      obtain ⟨ds, hd⟩ := ih fun k hk' => hk k (List.mem_cons_of_mem _ hk')
      obtain ⟨d, h1, _⟩ := at_key r (hk _ (List.mem_cons_self ..))
      exact ⟨d :: ds, by unfold Ats; exact ⟨_, _, rfl, h1, hd⟩⟩
  obtain ⟨ds, hd⟩ := hx
  rcases h with h | h
  · exact ⟨.lst ds, by unfold At; exact ⟨a, _, rfl, h, hd⟩, rfl⟩
  · exact ⟨.tup ds, by unfold At; exact ⟨a, _, rfl, h, hd⟩, rfl⟩
def spIsHand (K : PySem.W.Frag) : Sp := fun vs H Q _ => ∃ hv ks, vs = [hv] ∧ HandAt K H hv ks ∧ GoodH ks ∧ ∀ H', Same H H' → Q (.bl true) H'
theorem ok_is_hand (T : Txt K mg w) : FnOk P w K mg base CX0 5 T.f_is_hand.f T.f_is_hand.fd ["thing"] (spIsHand K) := by
  refine T.f_is_hand.F.ok sc_is_hand (fun vs H Q E h => ?_) (fun cdv A outer s H vs Q E hr h => ?_)
  · obtain ⟨hv, ks, rfl, _⟩ := h
    rfl
  obtain ⟨hv, ks, rfl, hh, hg, q⟩ := h
  obtain ⟨d, hd, hd2⟩ := at_hand hh hg.ok
  refine ⟨_, (pss_cons (ps_if (PW.pt (pw_or (pt_not (pt_val (pe_call (ok_is_row T) (hr.mono (by decide)) (by rfl) T.f_is_row.g T.f_is_row.F.kp T.f_is_row.b .nil pass0 (pa_cons (pv 0) pa_nil)))) (pw_or1 (pt_cmpR op_gt (pe_callB (call_lenK K) (by rfl) T.b_len (by decide +kernel) (pa_cons (pv 0) pa_nil)) (pe_c_HEAVIEST T) (nomark _))))) (pss_one (ps_ret pe_bl)) pss_nil)
      (pss_one (ps_ret (pe_and (pe_callB (cr_all rfl) (by rfl) T.b_all (by decide +kernel) (pa_cons (pe_lc (own := [("key", 1)]) rfl sc_is_hand.nd (pi_seq (pv 0)) (blkOk_by (own := [("key", 1)]) (N := N_is_hand) (sc := defScope s_is_hand) (by decide +kernel)) (fun _ _ _ _ _ => (pg_name (i := 1) sc_is_hand.nd rfl (.inl rfl))) (fun _ _ _ _ _ => pts_nil) (fun _ _ _ _ _ => (pe_call (ok_is_key T) (hr.mono (by decide)) (by rfl) T.f_is_key.g T.f_is_key.F.kp T.f_is_key.b .nil pass0 (pa_cons (pv 1) pa_nil)))) pa_nil)) (pe_one (pe_cmpR op_le (pe_call (ok_weigh T) (hr.mono (by decide)) (by rfl) T.f_weigh.g T.f_weigh.F.kp T.f_weigh.b .nil pass0 (pa_cons (pv 0) pa_nil)) (pe_c_HEAVIEST T) (nomark _))))))), ?_⟩
  walk_at "rd"
  refine ⟨_, rfl, _, d, rfl, hd, fun H1 s1 => ⟨_, rfl, ?_⟩⟩
  have hh1 := hh.same s1
  obtain ⟨a, xs, rfl, hrow, hp⟩ := hh1
  have hlen : xs.length = ks.length := prd_len hp
  have hfew := hg.few
  rw [hd2]
  refine iteN rfl ⟨_, rfl, len_row hrow ⟨_, _, rfl, rfl, _, rfl, iteN (decide_eq_false (by omega)) ?_⟩⟩
  refine lc_rowN (a := a) (xs := xs) (ys := (ks.map fun _ => true).map V.bl) rfl hrow (by rw [List.length_map, List.length_map]; exact hlen) ?_ (fun _ => rfl) (fun _ _ _ h => h) (fun i x y H' hx hy s2 R hR => ?_) (fun D H' s2 nD hD => ?_)
  · rw [List.length_map, List.length_map]
    exact Nat.lt_of_le_of_lt hfew (by decide)
  · obtain ⟨k, hk, r⟩ := prd_at hp hx
    rw [List.getElem?_map, List.getElem?_map, hk] at hy
    have hy := Option.some.inj hy
    subst hy
    exact ⟨_, rfl, x, k, rfl, r.same s2, hg.ok k (List.mem_of_getElem? hk), fun H4 s4 => hR _ s4⟩
  · refine ⟨D, _, rfl, SqL.of hD, _, rfl, iteY ?_ ⟨_, rfl, _, ks, rfl, (hh.same s1).same s2, hg.ok, hfew, fun H3 s3 => ⟨_, _, rfl, rfl, ?_⟩⟩⟩
    · rw [List.all_map]
      simp
    · have := hg.wt
      show Q (.bl (decide ((hwt ks : Int) ≤ 60))) H3
      rw [decide_eq_true (by omega)]
      exact q _ ((s1.trans s2).trans s3)
def spCheckHand (K : PySem.W.Frag) : Sp := fun vs H Q _ => ∃ hv ks, vs = [hv] ∧ HandAt K H hv ks ∧ GoodH ks ∧ ∀ H', Same H H' → Q .non H'
theorem ok_check_hand (T : Txt K mg w) : FnOk P w K mg base CX0 6 T.f_check_hand.f T.f_check_hand.fd ["thing"] (spCheckHand K) := by
  refine T.f_check_hand.F.ok sc_check_hand (fun vs H Q E h => ?_) (fun cdv A outer s H vs Q E hr h => ?_)
  · obtain ⟨hv, ks, rfl, _⟩ := h
    rfl
  obtain ⟨hv, ks, rfl, hh, hg, q⟩ := h
  refine ⟨_, (pss_one (ps_if (pt_not (pt_val (pe_call (ok_is_hand T) (hr.mono (by decide)) (by rfl) T.f_is_hand.g T.f_is_hand.F.kp T.f_is_hand.b .nil pass0 (pa_cons (pv 0) pa_nil)))) (pss_one ps_never) pss_nil)), ?_⟩
  walk_at "rd"
  exact ⟨_, rfl, _, ks, rfl, hh, hg, fun H1 s1 => ⟨_, rfl, iteN rfl (q _ s1)⟩⟩

/-! ### sheets -/
structure Sh where
  w : List Nat
  n : Nat
  k : List Nat
structure GoodS (s : Sh) : Prop where
  w : Plain s.w
  n : s.n ≤ s.w.length
  k : Plain s.k
  kl : s.k.length ≤ 60
  wl : s.w.length ≤ 1000000
def Sh.vs (s : Sh) : List V := [.str (tx s.w), .int s.n, .str (tx s.k)]
def SheetAt (K : PySem.W.Frag) (H : Hp) (v : V) (s : Sh) : Prop := ∃ a, v = .ref a ∧ Row K H a s.vs
theorem SheetAt.same {K : PySem.W.Frag} {H H' : Hp} {v : V} {s} (e : Same H H') (h : SheetAt K H v s) : SheetAt K H' v s := by
  obtain ⟨a, rfl, h⟩ := h
  exact ⟨a, rfl, h.same e⟩
theorem at_sheet {K : PySem.W.Frag} {H : Hp} {v : V} {s : Sh} (h : SheetAt K H v s) (hs : GoodS s) : ∃ d, At K H v d ∧ isRow d = true := by
  obtain ⟨a, rfl, h⟩ := h
  have hd : Ats K H s.vs [.str s.w, .int s.n, .str s.k] := by
    unfold Ats
    refine ⟨_, _, rfl, by unfold At; exact ⟨rfl, hs.wl⟩, ?_⟩
    unfold Ats
    refine ⟨_, _, rfl, by unfold At; rfl, ?_⟩
    unfold Ats
    refine ⟨_, _, rfl, by unfold At; exact ⟨rfl, Nat.le_trans hs.kl (by decide)⟩, ?_⟩
    unfold Ats
    rfl
  rcases h with h | h
  · exact ⟨.lst _, by unfold At; exact ⟨a, _, rfl, h, hd⟩, rfl⟩
  · exact ⟨.tup _, by unfold At; exact ⟨a, _, rfl, h, hd⟩, rfl⟩
def spIsSheet (K : PySem.W.Frag) : Sp := fun vs H Q _ => ∃ v s, vs = [v] ∧ SheetAt K H v s ∧ GoodS s ∧ ∀ H', Same H H' → Q (.bl true) H'
theorem ok_is_sheet (T : Txt K mg w) : FnOk P w K mg base CX0 3 T.f_is_sheet.f T.f_is_sheet.fd ["thing"] (spIsSheet K) := by
  refine T.f_is_sheet.F.ok sc_is_sheet (fun vs H Q E h => ?_) (fun cdv A outer s H vs Q E hr h => ?_)
  · obtain ⟨v, s, rfl, _⟩ := h
    rfl
  obtain ⟨v, s, rfl, hh, hg, q⟩ := h
  obtain ⟨d, hd, hd2⟩ := at_sheet hh hg
  refine ⟨_, (pss_cons (ps_if (PW.pt (pw_or (pt_not (pt_val (pe_call (ok_is_row T) (hr.mono (by decide)) (by rfl) T.f_is_row.g T.f_is_row.F.kp T.f_is_row.b .nil pass0 (pa_cons (pv 0) pa_nil)))) (pw_or (pt_cmpR op_ne (pe_callB (call_lenK K) (by rfl) T.b_len (by decide +kernel) (pa_cons (pv 0) pa_nil)) pe_int (nomark _)) (pw_or1 (pt_not (pt_val (pe_call (ok_is_plain T) (hr.mono (by decide)) (by rfl) T.f_is_plain.g T.f_is_plain.F.kp T.f_is_plain.b .nil pass0 (pa_cons (pe_ix ix_seq (pv 0) pe_int (fun _ _ => rfl)) pa_nil)))))))) (pss_one (ps_ret pe_bl)) pss_nil)
      (pss_one (ps_ret (pe_and (pe_call (ok_is_within T) (hr.mono (by decide)) (by rfl) T.f_is_within.g T.f_is_within.F.kp T.f_is_within.b .nil pass0 (pa_cons (pe_ix ix_seq (pv 0) pe_int (fun _ _ => rfl)) (pa_cons pe_int (pa_cons (pe_callB (call_lenK K) (by rfl) T.b_len (by decide +kernel) (pa_cons (pe_ix ix_seq (pv 0) pe_int (fun _ _ => rfl)) pa_nil)) pa_nil)))) (pe_one (pe_call (ok_is_clip T) (hr.mono (by decide)) (by rfl) T.f_is_clip.g T.f_is_clip.F.kp T.f_is_clip.b .nil pass0 (pa_cons (pe_ix ix_seq (pv 0) pe_int (fun _ _ => rfl)) pa_nil))))))), ?_⟩
  walk_at "rd"
  refine ⟨_, rfl, _, d, rfl, hd, fun H1 s1 => ⟨_, rfl, ?_⟩⟩
  obtain ⟨a, rfl, hrow⟩ := hh.same s1
  rw [hd2]
  refine iteN rfl ⟨_, rfl, len_row hrow ⟨rfl, _, rfl, iteN (by rw [decide_eq_true (show V.int ((s.vs.length : Nat) : Int) = V.int 3 from rfl)]; rfl) ?_⟩⟩
  refine ⟨_, rfl, ix_row hrow (at_ofA (j := 0) rfl rfl) ⟨_, .str s.w, rfl, by unfold At; exact ⟨rfl, hg.wl⟩, _, rfl, ?_⟩⟩
  rw [show isPlain (.str s.w) = true from hg.w]
  refine iteN rfl ?_
  refine ⟨_, rfl, ix_row hrow (at_ofA (j := 1) rfl rfl) ⟨_, rfl, ix_row hrow (at_ofA (j := 0) rfl rfl) (len_tx hg.wl ⟨_, .int s.n, 0, s.w.length, rfl, by unfold At; rfl, _, rfl, iteY ?_ ?_⟩)⟩⟩
  · have := hg.n
    show (decide ((0 : Int) ≤ (s.n : Int)) && decide ((s.n : Int) ≤ (s.w.length : Int))) = true
    rw [decide_eq_true (by omega), decide_eq_true (by omega)]
    rfl
  · refine ⟨_, rfl, ix_row hrow (at_ofA (j := 2) rfl rfl) ⟨_, .str s.k, rfl, by unfold At; exact ⟨rfl, Nat.le_trans hg.kl (by decide)⟩, ?_⟩⟩
    have e : isClip (.str s.k) = true := by
      show (s.k.all (alpha.contains ·) && decide (s.k.length ≤ 60)) = true
      rw [show s.k.all (alpha.contains ·) = true from hg.k, decide_eq_true hg.kl]
      rfl
    rw [e]
    exact q _ s1
def spCheckSheet (K : PySem.W.Frag) : Sp := fun vs H Q _ => ∃ v s, vs = [v] ∧ SheetAt K H v s ∧ GoodS s ∧ ∀ H', Same H H' → Q .non H'
theorem ok_check_sheet (T : Txt K mg w) : FnOk P w K mg base CX0 4 T.f_check_sheet.f T.f_check_sheet.fd ["thing"] (spCheckSheet K) := by
  refine T.f_check_sheet.F.ok sc_check_sheet (fun vs H Q E h => ?_) (fun cdv A outer s H vs Q E hr h => ?_)
  · obtain ⟨v, s, rfl, _⟩ := h
    rfl
  obtain ⟨v, s, rfl, hh, hg, q⟩ := h
  refine ⟨_, (pss_one (ps_if (pt_not (pt_val (pe_call (ok_is_sheet T) (hr.mono (by decide)) (by rfl) T.f_is_sheet.g T.f_is_sheet.F.kp T.f_is_sheet.b .nil pass0 (pa_cons (pv 0) pa_nil)))) (pss_one ps_never) pss_nil)), ?_⟩
  walk_at "rd"
  exact ⟨_, rfl, _, s, rfl, hh, hg, fun H1 s1 => ⟨_, rfl, iteN rfl (q _ s1)⟩⟩

/-- the letters of a list, joined -/
theorem jn_let (ws : List Nat) : ((ws.map fun c => [c]).map tx).map V.str = ws.map lV ∧ (((ws.map fun c => [c]).map tx).map (·.length)).sum + ((ws.map fun c => [c]).map tx).length * (tx []).length = ws.length ∧ Txt.join (tx []) ((ws.map fun c => [c]).map tx) = tx ws := by
  have hfl : (ws.map fun c => [c]).flatten = ws := by
    induction ws with
    | nil => rfl
    | cons c ws ih => rw [List.map_cons, List.flatten_cons, ih]; rfl
  refine ⟨?_, ?_, ?_⟩
  · rw [List.map_map, List.map_map]
    rfl
  · have e1 : (((ws.map fun c => [c]).map tx).map (·.length)) = (ws.map fun c => [c]).map (·.length) := by rw [List.map_map]; exact List.map_congr_left fun x _ => tx_len x
    rw [e1, tx_len, List.length_nil, Nat.mul_zero, Nat.add_zero, List.map_map]
    clear hfl e1
    induction ws with
    | nil => rfl
    | cons c ws ih =>
      rw [List.map_cons, List.sum_cons, ih, List.length_cons]
      show 1 + ws.length = _
      omega
  · rw [join_tx, hfl]
def sdOf (s : Sh) : Sd Nat := ⟨s.w.take s.n, (s.w.drop s.n).reverse, s.k⟩
def shOf (d : Sd Nat) : Sh := ⟨d.l ++ d.r.reverse, d.l.length, d.c⟩
def pressed (ks : List Ky) (t : Nat) (s : Sh) : Sh := shOf (presses id ks t (sdOf s))
theorem sdOf_size {s : Sh} (h : GoodS s) : (sdOf s).size = s.w.length ∧ (sdOf s).c.length ≤ 60 := by
  refine ⟨?_, h.kl⟩
  have := h.n
  unfold Sd.size sdOf
  simp only [List.length_take, List.length_reverse, List.length_drop]
  omega
def Ky.gain : Ky → Nat
  | .write w => w.length
  | .paste => 60
  | _ => 0
def gains (ks : List Ky) : Nat := (ks.map Ky.gain).sum
theorem gains_cons (k : Ky) (ks : List Ky) : gains (k :: ks) = k.gain + gains ks := by unfold gains; rw [List.map_cons, List.sum_cons]
theorem step_gain {α : Type} (f : Nat → α) (k : Ky) (s : Sd α) (h : k.wt ≤ 60) (hc : s.c.length ≤ 60) : (step f k s).size ≤ s.size + k.gain ∧ (step f k s).c.length ≤ 60 := by
  refine ⟨?_, (step_size f k s h hc).2⟩
  cases k <;> (unfold Sd.size step Ky.gain; simp only [List.length_append, List.length_map, near_len, rest_len]; omega)
theorem steps_gain {α : Type} (f : Nat → α) : ∀ (ks : List Ky) (s : Sd α), (∀ k ∈ ks, k.wt ≤ 60) → s.c.length ≤ 60 → (steps f ks s).size ≤ s.size + gains ks ∧ (steps f ks s).c.length ≤ 60
  | [], s, _, hc => ⟨Nat.le_refl _, hc⟩
  | k :: ks, s, h, hc => by
    obtain ⟨h1, h2⟩ := step_gain f k s (h k (List.mem_cons_self ..)) hc
    obtain ⟨h3, h4⟩ := steps_gain f ks (step f k s) (fun x hx => h x (List.mem_cons_of_mem _ hx)) h2
    rw [steps_cons, gains_cons]
    exact ⟨by omega, h4⟩
theorem presses_gain {α : Type} (f : Nat → α) (ks : List Ky) (h : ∀ k ∈ ks, k.wt ≤ 60) : ∀ (n : Nat) (s : Sd α), s.c.length ≤ 60 → (presses f ks n s).size ≤ s.size + gains ks * n ∧ (presses f ks n s).c.length ≤ 60
  | 0, s, hc => ⟨Nat.le_refl _, hc⟩
  | n + 1, s, hc => by
    obtain ⟨h1, h2⟩ := steps_gain f ks s h hc
    obtain ⟨h3, h4⟩ := presses_gain f ks h n (steps f ks s) h2
    refine ⟨?_, h4⟩
    show (presses f ks n (steps f ks s)).size ≤ _
    rw [Nat.mul_succ]
    omega
theorem gains_le {ks : List Ky} (h : GoodH ks) : gains ks ≤ 3600 := by
  have : ∀ ks : List Ky, (∀ k ∈ ks, k.ok) → gains ks ≤ 60 * hwt ks := fun ks => by
    induction ks with
    | nil => intro _; exact Nat.zero_le _
    | cons k ks ih =>
      intro hk
      rw [gains_cons, hwt_cons]
      have h1 := ih fun x hx => hk x (List.mem_cons_of_mem _ hx)
      have h2 : k.gain ≤ 60 * k.wt := by cases k <;> simp [Ky.gain, Ky.wt] <;> omega
      omega
  have h1 := this ks h.ok
  have h2 := h.wt
  omega
def spPress (K : PySem.W.Frag) : Sp := fun vs H Q _ => ∃ (sv hv : V) (s : Sh) (ks : List Ky) (t : Nat), vs = [sv, hv, .int t] ∧ SheetAt K H sv s ∧ HandAt K H hv ks ∧ GoodS s ∧ GoodH ks ∧ t ≤ 300 ∧ s.w.length ≤ 100000 ∧ s.w.length + gains ks * t ≤ 1000000 ∧
  ∀ p H', Same H H' → H' p = some (.tup (pressed ks t s).vs) → Q (.ref p) H'
theorem ok_press (T : Txt K mg w) : FnOk P w K mg base CX0 7 T.f_press.f T.f_press.fd ["sheet", "hand", "times"] (spPress K) := by
  refine T.f_press.F.ok sc_press (fun vs H Q E h => ?_) (fun cdv A outer s H vs Q E hr h => ?_)
  · obtain ⟨sv, hv, s, ks, t, rfl, _⟩ := h
    rfl
  obtain ⟨sv, hv, s, ks, t, rfl, hs, hh, gs, gh, ht, hs1, hz, q⟩ := h
  refine ⟨_, (pss_cons (ps_expr (pe_call (ok_check_sheet T) (hr.mono (by decide)) (by rfl) T.f_check_sheet.g T.f_check_sheet.F.kp T.f_check_sheet.b .nil pass0 (pa_cons (pv 0) pa_nil)))
      (pss_cons (ps_expr (pe_call (ok_check_hand T) (hr.mono (by decide)) (by rfl) T.f_check_hand.g T.f_check_hand.F.kp T.f_check_hand.b .nil pass0 (pa_cons (pv 1) pa_nil)))
      (pss_cons (ps_if (pt_not (pt_val (pe_call (ok_is_within T) (hr.mono (by decide)) (by rfl) T.f_is_within.g T.f_is_within.F.kp T.f_is_within.b .nil pass0 (pa_cons (pv 2) (pa_cons pe_int (pa_cons (pe_c_MOST_TIMES T) pa_nil)))))) (pss_one ps_never) pss_nil)
      (pss_cons (ps_asg (pv 0) (pg_seq rfl (pgs_cons (pg_name (i := 3) sc_press.nd rfl (.inl rfl)) (pgs_cons (pg_name (i := 4) sc_press.nd rfl (.inl rfl)) (pgs_cons (pg_name (i := 5) sc_press.nd rfl (.inl rfl)) pgs_nil)))))
      (pss_cons (ps_set (i := 6) sc_press.nd rfl (.inl rfl) (pe_callTy (call_listS rfl) (by rfl) T.b_list (by decide +kernel) (pa_cons (pe_slice sl_str (pv 3) po_none (po_some (pv 4))) pa_nil)))
      (pss_cons (ps_set (i := 7) sc_press.nd rfl (.inl rfl) (pe_callTy (call_listS rfl) (by rfl) T.b_list (by decide +kernel) (pa_cons (pe_slice sl_str (pv 3) (po_some (pv 4)) po_none) pa_nil)))
      (pss_cons (ps_expr (pe_bm0 PySem.F.plainAttrs_list PySem.F.slot_list_reverse PySem.F.type_list_reverse mt_reverse (pv 7)))
      (pss_cons (ps_set (i := 8) sc_press.nd rfl (.inl rfl) (pe_callTy (call_listS rfl) (by rfl) T.b_list (by decide +kernel) (pa_cons (pv 5) pa_nil)))
      (pss_cons (ps_for PassesOwn.never rfl (pi_range1 (by rfl) T.b_range (pa_cons (pv 2) pa_nil)) (pg_name (i := 9) sc_press.nd rfl (.inl rfl))
        (pss_one (ps_for PassesOwn.never rfl (pi_seq (pv 1)) (pg_name (i := 10) sc_press.nd rfl (.inl rfl))
        (pss_one (ps_set (i := 8) sc_press.nd rfl (.inl rfl) (pe_call (ok_do_key T) (hr.mono (by decide)) (by rfl) T.f_do_key.g T.f_do_key.F.kp T.f_do_key.b .nil pass0 (pa_cons (pv 10) (pa_cons (pv 6) (pa_cons (pv 7) (pa_cons (pv 8) pa_nil))))))))))
      (pss_cons (ps_expr (pe_bm0 PySem.F.plainAttrs_list PySem.F.slot_list_reverse PySem.F.type_list_reverse mt_reverse (pv 7)))
      (pss_one (ps_ret (pe_tup (pa_cons (pe_join pe_str (pe_op op_cat (pv 6) (pv 7))) (pa_cons (pe_callB (call_lenK K) (by rfl) T.b_len (by decide +kernel) (pa_cons (pv 6) pa_nil)) (pa_cons (pe_join pe_str (pv 8)) pa_nil)))))))))))))))), ?_⟩
  walk_at "rd"
  refine ⟨_, rfl, sv, s, rfl, hs, gs, fun H1 s1 => ?_⟩
  refine ⟨_, rfl, hv, ks, rfl, hh.same s1, gh, fun H2 s2 => ?_⟩
  refine ⟨_, rfl, .int t, .int t, 0, 300, rfl, by unfold At; rfl, _, rfl, ?_⟩
  rw [show isWithin (.int t) 0 300 = true from by show (decide ((0 : Int) ≤ (t : Int)) && decide ((t : Int) ≤ 300)) = true; rw [decide_eq_true (by omega), decide_eq_true (by omega)]; rfl]
  refine iteN rfl ?_
  obtain ⟨a0, rfl, hrow⟩ := hs.same (s1.trans s2)
  refine ⟨_, rfl, gSeq.row hrow rfl ?_⟩
  walk_at "rd"
  have big : ∀ {m : Nat}, m ≤ 1000000 → m ≤ sizeLine := fun h => Nat.le_trans h (by decide)
  have hn := gs.n
  have hkl := gs.kl
  refine ⟨_, _, rfl, _, _, rfl, _, _, rfl, rfl, _, rfl, _, rfl, _, rfl, tx s.w, rfl, by rw [tx_len]; exact big gs.wl, ?_⟩
  rw [cut__n]
  refine ⟨_, rfl, by rw [← Array.length_toList, tx_cps, List.length_take]; exact big (by omega), fun a nA => ?_⟩
  rw [tx_cps]
  have s3 : Same H2 (upd H2 a (.lst ((s.w.take s.n).map lV))) := same_upd nA
  have hA : (upd H2 a (.lst ((s.w.take s.n).map lV))) a = some (.lst ((s.w.take s.n).map lV)) := upd_same
  show _
  generalize hH3 : upd H2 a (.lst ((s.w.take s.n).map fun c => V.str (tx [c]))) = H3
  have s3 : Same H2 H3 := by rw [← hH3]; exact same_upd nA
  have hA : H3 a = some (.lst ((s.w.take s.n).map lV)) := by rw [← hH3]; exact upd_same
  clear hH3
  refine ⟨_, rfl, _, rfl, _, rfl, tx s.w, rfl, by rw [tx_len]; exact big gs.wl, ?_⟩
  rw [cut_n_]
  refine ⟨_, rfl, by rw [← Array.length_toList, tx_cps, List.length_drop]; exact big (by omega), fun b nB => ?_⟩
  rw [tx_cps]
  have hab : a ≠ b := fun e => by rw [← e, hA] at nB; cases nB
  refine ⟨_, rfl, .inl ⟨rfl, _, SqL.of upd_same⟩, b, _, rfl, rfl, upd_same, ?_⟩
  rw [upd_upd, ← List.map_reverse]
  generalize hH4 : upd H3 b (.lst ((s.w.drop s.n).reverse.map fun c => V.str (tx [c]))) = H4
  have s4 : Same H3 H4 := by rw [← hH4]; exact same_upd nB
  have hB : H4 b = some (.lst ((s.w.drop s.n).reverse.map lV)) := by rw [← hH4]; exact upd_same
  clear hH4
  have hA := s4 _ _ hA
  refine ⟨_, rfl, _, rfl, by rw [← Array.length_toList, tx_cps]; exact big (by omega), fun c nC => ?_⟩
  rw [tx_cps]
  have hac : a ≠ c := fun e => by rw [← e, hA] at nC; cases nC
  have hbc : b ≠ c := fun e => by rw [← e, hB] at nC; cases nC
  generalize hH5 : upd H4 c (.lst (s.k.map fun c => V.str (tx [c]))) = H5
  have s5 : Same H4 H5 := by rw [← hH5]; exact same_upd nC
  have hC : H5 c = some (.lst (s.k.map lV)) := by rw [← hH5]; exact upd_same
  clear hH5
  have hA := s5 _ _ hA
  have hB := s5 _ _ hB
  refine fr_rng1 ⟨_, rfl, _, rfl, by omega, by omega, ?_⟩
  have nA0 : H a = none := (s1.trans s2).free nA
  have nB0 : H b = none := ((s1.trans s2).trans s3).free nB
  have hsd : sdV ((sdOf s).map lV) H5 a b c := ⟨hA, hB, hC, hab, hac, hbc⟩
  have hsame : Same H H5 := (((s1.trans s2).trans s3).trans s4).trans s5
  clear hA hB hC s1 s2 s3 s4 s5 hrow nC nA nB
  obtain ⟨ah, xs, rfl, hrowH, hp⟩ := hh
  have hxl : xs.length = ks.length := prd_len hp
  have hfew := gh.few
  obtain ⟨sz0, cz0⟩ := sdOf_size gs
  have kw : ∀ k ∈ ks, k.wt ≤ 60 := fun k hk => Nat.le_trans (hwt_mem hk) gh.wt
  have sg := fun (x y : Option V) (c' : Addr) => show List (Option V) from [some (.ref a0), some (.ref ah), some (.int t), some (.str (tx s.w)), some (.int s.n), some (.str (tx s.k)), some (.ref a), some (.ref b), some (.ref c'), x, y]
  refine ForGo.range (fun i σ H' => ∃ c' x y, σ = [some (.ref a0), some (.ref ah), some (.int t), some (.str (tx s.w)), some (.int s.n), some (.str (tx s.k)), some (.ref a), some (.ref b), some (.ref c'), x, y] ∧ Same H H' ∧ sdV ((presses id ks i (sdOf s)).map lV) H' a b c')
    ⟨c, none, none, rfl, hsame, hsd⟩ ?_ ?_
  · rintro i σ H6 hi ⟨c1, x, y, rfl, s6, hsd6⟩
    have hi : i < t := hi
    refine for_row (K := K) (a := ah) (xs := xs) rfl hrowH s6 (fun j σ H' => ∃ c' y, σ = [some (.ref a0), some (.ref ah), some (.int t), some (.str (tx s.w)), some (.int s.n), some (.str (tx s.k)), some (.ref a), some (.ref b), some (.ref c'), some (.int (0 + i)), y] ∧ Same H H' ∧ sdV ((steps id (ks.take j) (presses id ks i (sdOf s))).map lV) H' a b c')
      ⟨c1, y, rfl, s6, hsd6⟩ (fun j σ H' _ ⟨_, _, _, s7, _⟩ => s7) ?_ ?_
    · rintro j x σ H7 hx ⟨c2, y, rfl, s7, hsd7⟩
      obtain ⟨k, hk, r⟩ := prd_at hp hx
      obtain ⟨p1, p2⟩ := presses_size id ks kw hfew i (sdOf s) cz0
      obtain ⟨p3, p4⟩ := steps_size id (ks.take j) (presses id ks i (sdOf s)) (fun k hk => kw k (List.mem_of_mem_take hk)) p2
      walk_at "rd"
      refine ⟨_, rfl, _, rfl, _, rfl, _, rfl, x, k, a, b, c2, _, rfl, r.same s7, gh.ok k (List.mem_of_getElem? hk), hsd7, ?_, fun p H8 fr hsd8 => ?_⟩
      · have e1 : ((steps id (ks.take j) (presses id ks i (sdOf s))).map lV).size = (steps id (ks.take j) (presses id ks i (sdOf s))).size := by
          unfold Sd.size Sd.map
          simp only [List.length_map]
        have e2 : ((steps id (ks.take j) (presses id ks i (sdOf s))).map lV).c.length = (steps id (ks.take j) (presses id ks i (sdOf s))).c.length := by
          unfold Sd.map
          simp only [List.length_map]
        have e3 : (ks.take j).length ≤ 60 := by
          rw [List.length_take]
          omega
        rw [e1, e2]
        omega
      · refine ⟨p, some x, rfl, fun u o hu => fr u o (fun e => by rw [e, nA0] at hu; cases hu) (fun e => by rw [e, nB0] at hu; cases hu) (s7 _ _ hu), ?_⟩
        have e4 : ks.take (j + 1) = ks.take j ++ [k] := by rw [List.take_add_one, hk]; rfl
        rw [e4, steps_app, steps_cons]
        show sdV ((step id k _).map lV) H8 a b p
        rw [← step_map id lV k]
        exact hsd8
    · rintro σ H7 ⟨c2, y, rfl, s7, hsd7⟩
      refine ⟨c2, _, y, rfl, s7, ?_⟩
      rw [presses_succ]
      rw [hxl, List.take_length] at hsd7
      exact hsd7
  · rintro σ H6 ⟨c1, x, y, rfl, s6, hA, hB, hC, _⟩
    have hA : H6 a = some (.lst ((presses id ks t (sdOf s)).l.map lV)) := hA
    have hB : H6 b = some (.lst ((presses id ks t (sdOf s)).r.map lV)) := hB
    have hC : H6 c1 = some (.lst ((presses id ks t (sdOf s)).c.map lV)) := hC
    walk_at "rd"
    refine ⟨_, rfl, .inl ⟨rfl, _, SqL.of hB⟩, b, _, rfl, rfl, hB, ?_⟩
    obtain ⟨p1, p2⟩ := presses_gain id ks kw t (sdOf s) cz0
    rw [sz0] at p1
    have hpr : pressed ks t s = shOf (presses id ks t (sdOf s)) := rfl
    generalize presses id ks t (sdOf s) = z at *
    have hzl : z.l.length + z.r.length ≤ 1000000 := Nat.le_trans p1 hz
    have hab2 : a ≠ b := hab
    rw [← List.map_reverse]
    generalize hH7 : upd H6 b (.lst (z.r.reverse.map lV)) = H7
    have s7 : Same H H7 := by rw [← hH7]; exact same_mut s6 nB0
    have hB7 : H7 b = some (.lst (z.r.reverse.map lV)) := by rw [← hH7]; exact upd_same
    have hA7 : H7 a = some (.lst (z.l.map lV)) := by rw [← hH7, upd_ne hab2]; exact hA
    have hbc1 : b ≠ c1 := by rename_i h; exact h.2.2
    have hC7 : H7 c1 = some (.lst (z.c.map lV)) := by rw [← hH7, upd_ne hbc1.symm]; exact hC
    clear hH7 hA hB hC
    show _
    refine ⟨⟨_, rfl⟩, _, rfl, _, rfl, a, b, _, _, rfl, rfl, hA7, hB7, ?_, fun D nD => ?_⟩
    · rw [List.length_map, List.length_map, List.length_reverse]
      exact big hzl
    rw [← List.map_append]
    obtain ⟨j1, j2, j3⟩ := jn_let (z.l ++ z.r.reverse)
    obtain ⟨k1, k2, k3⟩ := jn_let z.c
    refine ⟨tx [], D, ((z.l ++ z.r.reverse).map fun c => [c]).map tx, rfl, rfl, .inl (SqL.of (by rw [j1]; exact upd_same)), ?_, ?_⟩
    · rw [j2, List.length_append, List.length_reverse]
      exact Nat.le_trans hzl (by decide)
    have s8 := same_upd (o := .lst ((z.l ++ z.r.reverse).map lV)) nD
    refine ⟨_, rfl, len_row (.inl (SqL.of (s8 _ _ hA7))) ⟨⟨_, rfl⟩, _, rfl, tx [], c1, (z.c.map fun c => [c]).map tx, rfl, rfl, .inl (SqL.of (by rw [k1]; exact s8 _ _ hC7)), ?_, (by show 3 ≤ sizeLine; decide), fun p nP => q p _ ((s7.trans s8).trans (same_upd nP)) ?_⟩⟩
    · rw [k2]
      omega
    · rw [upd_same, j3, k3, List.length_map, hpr]
      rfl

/-! ## the law's own draws -/
theorem fresh_back' {H H' : Hp} {p : Addr} (e : Same H H') (h : H' p = none) : H p = none := e.free h
def Spr (H : Hp) (p : Addr) : Prop := ∃ F S C : Int, H p = some (.lst [.int F, .int S, .int C]) ∧ 0 ≤ F ∧ 0 ≤ S ∧ S < 2305843009213693951 ∧ 0 ≤ C
/-- all but the spring at p is as it was -/
structure Go (p : Addr) (H H' : Hp) : Prop where
  keep : ∀ b o, b ≠ p → H b = some o → H' b = some o
  spr : Spr H' p
theorem Go.trans {p : Addr} {H H1 H2 : Hp} (a : Go p H H1) (b : Go p H1 H2) : Go p H H2 := ⟨fun c o hc h => b.keep c o hc (a.keep c o hc h), b.spr⟩
theorem Spr.same {p : Addr} {H H' : Hp} (h : Spr H p) (e : Same H H') : Spr H' p := by
  obtain ⟨F, S, C, h1, h2⟩ := h
  exact ⟨F, S, C, e _ _ h1, h2⟩
theorem Go.of_same {p : Addr} {H H' : Hp} (h : Spr H p) (e : Same H H') : Go p H H' := ⟨fun b o _ k => e b o k, h.same e⟩
theorem Go.refl {p : Addr} {H : Hp} (h : Spr H p) : Go p H H := ⟨fun _ _ _ k => k, h⟩
theorem Go.same {p : Addr} {H H1 H2 : Hp} (a : Go p H H1) (e : Same H1 H2) : Go p H H2 := a.trans (.of_same a.spr e)
theorem Spr.ne {p b : Addr} {H : Hp} (h : Spr H p) (hb : H b = none) : b ≠ p := fun z => by
  obtain ⟨F, S, C, h1, _⟩ := h
  rw [z, h1] at hb
  cases hb
theorem pow60 : (10 : Nat) ^ 60 ≤ 2 ^ 200 := by decide +kernel
theorem fig_step {F r : Int} {n : Nat} (h0 : 0 ≤ F) (h : F.natAbs < 2 ^ n) (r0 : 0 ≤ r) (hr : r < 1000000000000000000000000000000000000000000000000000000000000) : 0 ≤ F * 1000000000000000000000000000000000000000000000000000000000000 + r ∧ (F * 1000000000000000000000000000000000000000000000000000000000000 + r).natAbs < 2 ^ (n + 200) := by
  obtain ⟨f, rfl⟩ := Int.eq_ofNat_of_zero_le h0
  obtain ⟨g, rfl⟩ := Int.eq_ofNat_of_zero_le r0
  have e : ((f : Int) * 1000000000000000000000000000000000000000000000000000000000000 + (g : Int)) = ((f * 1000000000000000000000000000000000000000000000000000000000000 + g : Nat) : Int) := by
    rw [Int.natCast_add, Int.natCast_mul]
    rfl
  rw [e]
  refine ⟨Int.natCast_nonneg _, ?_⟩
  rw [Int.natAbs_natCast] at h ⊢
  have hg : g < 1000000000000000000000000000000000000000000000000000000000000 := by omega
  have h1 : f * 1000000000000000000000000000000000000000000000000000000000000 + g < (f + 1) * 1000000000000000000000000000000000000000000000000000000000000 := by
    rw [Nat.add_mul, Nat.one_mul]
    omega
  have h2 : (f + 1) * 1000000000000000000000000000000000000000000000000000000000000 ≤ 2 ^ n * 2 ^ 200 := Nat.mul_le_mul h pow60
  rw [Nat.pow_add]
  exact Nat.lt_of_lt_of_le h1 h2
theorem cut63 (xs : List V) (h : xs.length ≤ 63) : cutV xs none (some 63) = xs := by
  unfold cutV
  rw [HT.sIx_none, show HT.sIx xs.length xs.length (some 63) = min 63 xs.length from HT.sIx_nat xs.length xs.length 63, List.drop_zero, Nat.sub_zero, Nat.min_eq_right h, List.take_length]
def spSpring (K : PySem.W.Frag) : Sp := fun vs H Q _ => ∃ (a : Addr) (ns : List Int), vs = [.ref a] ∧ SqL K H a (ns.map V.int) ∧ ns.length ≤ 63 ∧ ∀ H' p, Same H H' → H p = none → Spr H' p → Q (.ref p) H'
theorem ok__law_spring (T : Txt K mg w) : FnOk P w K mg base CX0 1 T.f__law_spring.f T.f__law_spring.fd ["script"] (spSpring K) := by
  refine T.f__law_spring.F.ok sc__law_spring (fun vs H Q E h => ?_) (fun cdv A outer s H vs Q E hr h => ?_)
  · obtain ⟨v, d, rfl, _⟩ := h
    rfl
  obtain ⟨a, ns, rfl, hs, hlen, q⟩ := h
  refine ⟨_, (pss_cons (ps_set (i := 1) sc__law_spring.nd rfl (.inl rfl) pe_int)
      (pss_cons (ps_set (i := 2) sc__law_spring.nd rfl (.inl rfl) pe_int)
      (pss_cons (ps_for PassesOwn.never rfl (pi_list (pe_slice sl_list (pv 0) po_none (po_some pe_int))) (pg_name (i := 3) sc__law_spring.nd rfl (.inl rfl))
        (pss_cons (ps_if (pt_cmpR op_ge (pe_callB call_abs (by rfl) T.b_abs (by decide +kernel) (pa_cons (pv 3) pa_nil)) (pe_op op_pow pe_int pe_int) (nomark _)) (pss_one (ps_set (i := 1) sc__law_spring.nd rfl (.inl rfl) (pe_op op_add (pe_op op_mulW (pv 1) (pe_op op_pow pe_int pe_int)) (pe_op op_mod (pe_callB call_abs (by rfl) T.b_abs (by decide +kernel) (pa_cons (pv 3) pa_nil)) (pe_op op_pow pe_int pe_int))))) pss_nil)
      (pss_one (ps_set (i := 2) sc__law_spring.nd rfl (.inl rfl) (pe_op op_mod (pe_op op_add (pe_op op_add (pe_op op_mul (pv 2) pe_int) (pe_op op_mod (pv 3) pe_int)) pe_int) pe_int)))))
      (pss_one (ps_ret (pe_lst (pa_cons (pv 1) (pa_cons (pv 2) (pa_cons pe_int pa_nil))))))))), ?_⟩
  walk_at "rd"
  refine fr_list ?_
  walk_at "rd"
  refine ⟨_, rfl, 63, rfl, a, ns.map V.int, rfl, hs, fun b nb => ?_⟩
  rw [cut63 _ (by rw [List.length_map]; exact hlen)]
  refine ⟨b, rfl, ⟨_, SqL.of upd_same⟩, ForGo.list (xs := ns.map V.int)
    (fun i σ H2 => ∃ (F S : Int) (y : Option V), σ = [some (.ref a), some (.int F), some (.int S), y] ∧ H2 = upd H b (.lst (ns.map V.int)) ∧ 0 ≤ F ∧ F.natAbs < 2 ^ (200 * i + 1) ∧ 0 ≤ S ∧ S < 2305843009213693951)
    ⟨0, 88651, none, rfl, rfl, by decide, by decide, by decide, by decide⟩ (fun i σ H2 _ ⟨_, _, _, _, e, _⟩ => by rw [e]; exact SqL.of upd_same) ?_ ?_⟩
  · rintro i x σ H2 hx ⟨F, S, y, rfl, rfl, hF0, hF, hS0, hS⟩
    rw [List.getElem?_map] at hx
    obtain ⟨c, hc, rfl⟩ : ∃ c, ns[i]? = some c ∧ V.int c = x := by
      cases e : ns[i]? with
      | none => rw [e] at hx; cases hx
      | some c => rw [e] at hx; exact ⟨c, rfl, Option.some.inj hx⟩
    have hi : i < ns.length := (List.getElem?_eq_some_iff.mp hc).1
    have hab : 0 ≤ (if c < 0 then -c else c) := by split <;> omega
    have hm1 : 0 ≤ (if c < 0 then -c else c) % 1000000000000000000000000000000000000000000000000000000000000 := Int.emod_nonneg _ (by decide)
    have hm2 : (if c < 0 then -c else c) % 1000000000000000000000000000000000000000000000000000000000000 < 1000000000000000000000000000000000000000000000000000000000000 := Int.emod_lt_of_pos _ (by decide)
    have stp := fig_step hF0 hF hm1 hm2
    walk_at "rd"
    have h60 : (10 : Int) ^ (Int.toNat 60) = 1000000000000000000000000000000000000000000000000000000000000 := by decide +kernel
    have hs1 : 0 ≤ (S * 69069 + c % 2305843009213693921 + 7) % 2305843009213693951 := Int.emod_nonneg _ (by decide)
    have hs2 : (S * 69069 + c % 2305843009213693921 + 7) % 2305843009213693951 < 2305843009213693951 := Int.emod_lt_of_pos _ (by decide)
    have hpw : 2 ^ (200 * i + 1) ≤ 2 ^ (200 * (i + 1) + 1) := Nat.pow_le_pow_right (by decide) (by omega)
    refine ⟨_, rfl, _, rfl, ⟨_, _, rfl, rfl, ⟨by decide, by decide, by decide⟩, _, _, rfl, rfl, _, rfl, ite2 (fun e => ?_) (fun e => ?_)⟩⟩
    · refine ⟨_, rfl, _, _, rfl, rfl, ⟨by decide, by decide, by decide⟩, ?_⟩
      walk_at "rd"
      rw [h60]
      refine ⟨_, _, rfl, rfl, wide_mul hF (b := 200) (by decide +kernel) (by omega) (by decide) (by omega), ?_⟩
      refine ⟨_, rfl, _, rfl, ⟨_, _, rfl, rfl, ⟨by decide, by decide, by decide⟩, ?_⟩⟩
      walk_at "rd"
      rw [h60]
      refine ⟨_, _, rfl, rfl, (show (0 : Int) < 1000000000000000000000000000000000000000000000000000000000000 by decide), _, _, rfl, rfl, ?_⟩
      refine ⟨_, rfl, _, _, rfl, rfl, .inl ⟨by omega, by omega⟩, _, rfl, _, _, rfl, rfl, (show (0 : Int) < 2305843009213693921 by decide), _, _, rfl, rfl, _, _, rfl, rfl, _, _, rfl, rfl, (show (0 : Int) < 2305843009213693951 by decide), ?_⟩
      exact ⟨_, _, _, rfl, rfl, stp.1, Nat.lt_of_lt_of_le stp.2 (Nat.pow_le_pow_right (by decide) (by omega)), hs1, hs2⟩
    · refine ⟨_, rfl, _, _, rfl, rfl, .inl ⟨by omega, by omega⟩, _, rfl, _, _, rfl, rfl, (show (0 : Int) < 2305843009213693921 by decide), _, _, rfl, rfl, _, _, rfl, rfl, _, _, rfl, rfl, (show (0 : Int) < 2305843009213693951 by decide), ?_⟩
      exact ⟨_, _, _, rfl, rfl, hF0, Nat.lt_of_lt_of_le hF hpw, hs1, hs2⟩
  · rintro σ H2 ⟨F, S, y, rfl, rfl, hF0, hF, hS0, hS⟩
    walk_at "rd"
    refine ⟨_, rfl, _, rfl, (by show 3 ≤ sizeLine; decide), fun p np => ?_⟩
    refine q _ p (fun c o e => ?_) ?_ ⟨F, S, 0, upd_same, hF0, hS0, hS, Int.le_refl _⟩
    · rw [upd_ne (ne_of_none ((same_upd nb) c o e) np)]
      exact same_upd nb c o e
    · exact fresh_back' (same_upd nb) np

def spDraw : Sp := fun vs H Q _ => ∃ (p : Addr) (m : Int), vs = [.ref p, .int m] ∧ Spr H p ∧ 0 < m ∧ m.natAbs < 2 ^ 250 ∧ ∀ H' r, Go p H H' → 0 ≤ r → r < m → Q (.int r) H'
theorem go_set {p : Addr} {H : Hp} {F S C : Int} (h1 : 0 ≤ F) (h2 : 0 ≤ S) (h3 : S < 2305843009213693951) (h4 : 0 ≤ C) : Go p H (upd H p (.lst [.int F, .int S, .int C])) :=
  ⟨fun b o hb e => by rw [upd_ne hb]; exact e, F, S, C, upd_same, h1, h2, h3, h4⟩
theorem ok__law_draw (T : Txt K mg w) : FnOk P w K mg base CX0 1 T.f__law_draw.f T.f__law_draw.fd ["spring", "many"] spDraw := by
  refine T.f__law_draw.F.ok sc__law_draw (fun vs H Q E h => ?_) (fun cdv A outer s H vs Q E hr h => ?_)
  · obtain ⟨v, d, rfl, _⟩ := h
    rfl
  obtain ⟨p, m, rfl, ⟨F, S, C, hp, hF, hS, hS2, hC⟩, hm, hm2, q⟩ := h
  refine ⟨_, (pss_cons (ps_if (pt_cmpR op_gt (pe_ix ix_seq (pv 0) pe_int (fun _ _ => rfl)) pe_int (nomark _)) (pss_cons (ps_set (i := 2) sc__law_draw.nd rfl (.inl rfl) (pe_op op_mod (pe_ix ix_seq (pv 0) pe_int (fun _ _ => rfl)) (pv 1)))
      (pss_cons (ps_asg (pe_op op_fdivW (pe_ix ix_seq (pv 0) pe_int (fun _ _ => rfl)) (pv 1)) (pg_sub (pv 0) pe_int set_list))
      (pss_one (ps_ret (pv 2))))) pss_nil)
      (pss_cons (ps_asg (pe_op op_add (pe_ix ix_seq (pv 0) pe_int (fun _ _ => rfl)) pe_int) (pg_sub (pv 0) pe_int set_list))
      (pss_cons (ps_set (i := 3) sc__law_draw.nd rfl (.inl rfl) (pe_op op_mod (pe_op op_mul (pe_ix ix_seq (pv 0) pe_int (fun _ _ => rfl)) (pe_ix ix_seq (pv 0) pe_int (fun _ _ => rfl))) pe_int))
      (pss_cons (ps_asg (pe_op op_mod (pe_op op_add (pe_op op_add (pv 3) (pe_op op_mul (pe_op op_mul pe_int (pe_ix ix_seq (pv 0) pe_int (fun _ _ => rfl))) (pe_ix ix_seq (pv 0) pe_int (fun _ _ => rfl)))) pe_int) pe_int) (pg_sub (pv 0) pe_int set_list))
      (pss_one (ps_ret (pe_op op_mod (pe_op op_fdiv (pe_ix ix_seq (pv 0) pe_int (fun _ _ => rfl)) pe_int) (pv 1)))))))), ?_⟩
  walk_at "rd"
  have at0 : ∀ {a b c : V}, atI [a, b, c] 0 = some a := fun {a b c} => rfl
  refine ⟨_, rfl, ix_lst hp (at_of (j := 0) rfl rfl) ⟨_, _, rfl, rfl, _, rfl, ite2 (fun e => ?_) (fun e => ?_)⟩⟩
  · refine ⟨_, rfl, ix_lst hp (at_of (j := 0) rfl rfl) ⟨_, rfl, _, _, rfl, rfl, hm, ?_⟩⟩
    refine ⟨_, rfl, ix_lst hp (at_of (j := 0) rfl rfl) ⟨_, rfl, _, _, rfl, rfl, wide_div hm hm2 (by decide) (by decide), ?_⟩⟩
    refine ⟨_, rfl, p, _, 0, 0, rfl, rfl, hp, rfl, _, rfl, ?_⟩
    exact q _ _ (go_set (Int.ediv_nonneg hF (by omega)) hS hS2 hC) (Int.emod_nonneg _ (by omega)) (Int.emod_lt_of_pos _ hm)
  · have hq1 : 0 ≤ S * S % 2305843009213693951 := Int.emod_nonneg _ (by decide)
    have hz1 : 0 ≤ (S * S % 2305843009213693951 + 7919 * (C + 1) * S + 104729) % 2305843009213693951 := Int.emod_nonneg _ (by decide)
    have hz2 : (S * S % 2305843009213693951 + 7919 * (C + 1) * S + 104729) % 2305843009213693951 < 2305843009213693951 := Int.emod_lt_of_pos _ (by decide)
    have b1 : -(2 ^ 64) < S ∧ S < 2 ^ 64 := by omega
    refine ⟨_, rfl, ix_lst hp (at_of (j := 2) rfl rfl) ⟨_, _, rfl, rfl, ?_⟩⟩
    refine ⟨_, rfl, p, _, 2, 2, rfl, rfl, hp, rfl, ?_⟩
    have hp2 : (upd H p (.lst [.int F, .int S, .int (C + 1)])) p = some (.lst [.int F, .int S, .int (C + 1)]) := upd_same
    refine ⟨_, rfl, ix_lst hp2 (at_of (j := 1) rfl rfl) ⟨_, rfl, ix_lst hp2 (at_of (j := 1) rfl rfl) ⟨_, _, rfl, rfl, .inl b1, _, _, rfl, rfl, (show (0 : Int) < 2305843009213693951 by decide), ?_⟩⟩⟩
    refine ⟨_, rfl, _, rfl, ix_lst hp2 (at_of (j := 2) rfl rfl) ⟨_, _, rfl, rfl, .inl ⟨by decide, by decide⟩, _, rfl, ix_lst hp2 (at_of (j := 1) rfl rfl) ⟨_, _, rfl, rfl, .inr b1, _, _, rfl, rfl, _, _, rfl, rfl, _, _, rfl, rfl, (show (0 : Int) < 2305843009213693951 by decide), ?_⟩⟩⟩
    refine ⟨_, rfl, p, _, 1, 1, rfl, rfl, hp2, rfl, ?_⟩
    have hp3 : (upd (upd H p (.lst [.int F, .int S, .int (C + 1)])) p (.lst [.int F, .int ((S * S % 2305843009213693951 + 7919 * (C + 1) * S + 104729) % 2305843009213693951), .int (C + 1)])) p = some (.lst [.int F, .int ((S * S % 2305843009213693951 + 7919 * (C + 1) * S + 104729) % 2305843009213693951), .int (C + 1)]) := upd_same
    refine ⟨_, rfl, ix_lst hp3 (at_of (j := 1) rfl rfl) ⟨_, _, rfl, rfl, ⟨by decide, by decide⟩, _, rfl, _, _, rfl, rfl, hm, ?_⟩⟩
    refine q _ _ ?_ (Int.emod_nonneg _ (by omega)) (Int.emod_lt_of_pos _ hm)
    exact ⟨fun b o hb e => by rw [upd_ne hb, upd_ne hb]; exact e, F, _, _, upd_same, hF, hz1, hz2, by omega⟩

/-! ## drawn words and texts -/
theorem pow300 {m : Int} {n : Nat} (h0 : 0 ≤ m) (h : m ≤ (n : Int)) (hn : n < 2 ^ 250) : m.natAbs < 2 ^ 250 := by omega
theorem small300 {m : Int} (h0 : 0 ≤ m) (h : m ≤ 1000000) : m.natAbs < 2 ^ 250 := Nat.lt_of_le_of_lt (show m.natAbs ≤ 1000000 by omega) (by decide)
theorem k_ab : ("ab" : Str) = tx [97, 98] := by decide +kernel
theorem k_a : ("a" : Str) = tx [97] := by decide +kernel
theorem k_zy : ("zy" : Str) = tx [122, 121] := by decide +kernel
def Kind (x : List Nat) : Prop := x ≠ [] ∧ x.length ≤ 26 ∧ Plain x
theorem kinds4 {r : Int} (h0 : 0 ≤ r) (h : r < 4) : ∃ x, atI [V.str "ab", V.str "a", V.str "abcdefghijklmnopqrstuvwxyz", V.str "zy"] r = some (.str (tx x)) ∧ Kind x := by
  have : r = 0 ∨ r = 1 ∨ r = 2 ∨ r = 3 := by omega
  rcases this with rfl | rfl | rfl | rfl
  · exact ⟨[97, 98], by rw [k_ab]; rfl, by simp, by simp, by show List.all _ _ = true; decide⟩
  · exact ⟨[97], by rw [k_a]; rfl, by simp, by simp, by show List.all _ _ = true; decide⟩
  · exact ⟨alpha, by rw [← tx_alpha]; rfl, by simp [alpha], by simp [alpha], by show List.all _ _ = true; decide⟩
  · exact ⟨[122, 121], by rw [k_zy]; rfl, by simp, by simp, by show List.all _ _ = true; decide⟩
theorem plain_mem {x : List Nat} (h : Plain x) {c : Nat} (hc : c ∈ x) : alpha.contains c = true := List.all_eq_true.mp h c hc
def spWord : Sp := fun vs H Q _ => ∃ (p : Addr) (m : Int), vs = [.ref p, .int m] ∧ Spr H p ∧ 1 ≤ m ∧ m ≤ 100000 ∧ ∀ H' x, Go p H H' → x ≠ [] → (x.length : Int) ≤ m → Plain x → Q (.str (tx x)) H'
theorem ok__law_word (T : Txt K mg w) : FnOk P w K mg base CX0 2 T.f__law_word.f T.f__law_word.fd ["spring", "most"] spWord := by
  refine T.f__law_word.F.ok sc__law_word (fun vs H Q E h => ?_) (fun cdv A outer s H vs Q E hr h => ?_)
  · obtain ⟨v, d, rfl, _⟩ := h
    rfl
  obtain ⟨p, m, rfl, hp, hm, hm2, q⟩ := h
  refine ⟨_, (pss_cons (ps_set (i := 2) sc__law_word.nd rfl (.inr rfl) (pe_ix ix_seq (pe_lst (pa_cons pe_str (pa_cons pe_str (pa_cons pe_str (pa_cons pe_str pa_nil))))) (pe_call (ok__law_draw T) (hr.mono (by decide)) (by rfl) T.f__law_draw.g T.f__law_draw.F.kp T.f__law_draw.b .nil pass0 (pa_cons (pv 0) (pa_cons pe_int pa_nil))) (fun _ _ => rfl)))
      (pss_one (ps_ret (pe_join pe_str (pe_lc (own := [("k", 3)]) rfl sc__law_word.nd (pi_range1 (by rfl) T.b_range (pa_cons (pe_op op_add pe_int (pe_call (ok__law_draw T) (hr.mono (by decide)) (by rfl) T.f__law_draw.g T.f__law_draw.F.kp T.f__law_draw.b .nil pass0 (pa_cons (pv 0) (pa_cons (pv 1) pa_nil)))) pa_nil)) (blkOk_by (own := [("k", 3)]) (N := N__law_word) (sc := defScope s__law_word) (by decide +kernel)) (fun _ _ _ _ _ => (pg_name (i := 3) sc__law_word.nd rfl (.inl rfl))) (fun _ _ _ _ _ => pts_nil) (fun _ _ _ _ _ => (pe_ix (ix_seqK K) (pv 2) (pe_call (ok__law_draw T) (hr.mono (by decide)) (by rfl) T.f__law_draw.g T.f__law_draw.F.kp T.f__law_draw.b .nil pass0 (pa_cons (pv 0) (pa_cons (pe_callB (call_lenK K) (by rfl) T.b_len (by decide +kernel) (pa_cons (pv 2) pa_nil)) pa_nil))) (fun _ _ => rfl)))))))), ?_⟩
  walk_at "rd"
  refine ⟨by show 4 ≤ sizeLine; decide, fun l nl => ?_⟩
  have g0 := Go.of_same hp (same_upd (o := .lst [V.str "ab", V.str "a", V.str "abcdefghijklmnopqrstuvwxyz", V.str "zy"]) nl)
  have hlp : l ≠ p := hp.ne nl
  refine ⟨_, rfl, p, 4, rfl, g0.spr, by decide, by decide, fun H1 r g1 r0 r4 => ?_⟩
  obtain ⟨x, hx, hk⟩ := kinds4 r0 r4
  refine ix_lst (g1.keep _ _ hlp upd_same) hx ⟨⟨_, rfl⟩, lc_rng1 ?_⟩
  walk_at "rd"
  refine ⟨_, rfl, _, rfl, p, m, rfl, g1.spr, by omega, small300 (by omega) (by omega), fun H2 n g2 n0 nm => ?_⟩
  refine ⟨_, _, rfl, rfl, _, rfl, by omega, by omega, fun D nD => ?_⟩
  have hDp : D ≠ p := g2.spr.ne nD
  have hn : (1 + n).toNat ≤ m.toNat := by omega
  refine LcGo.range (fun i H3 => Go p H2 H3 ∧ ∃ ws : List Nat, H3 D = some (.lst (ws.map fun c => V.str (tx [c]))) ∧ ws.length = i ∧ Plain ws)
    ⟨.of_same g2.spr (same_upd nD), [], upd_same, rfl, rfl⟩ ?_ ?_
  · rintro i H3 hi ⟨g3, ws, hD, hws, hpl⟩
    walk_at "rd"
    refine ⟨rfl, _, rfl, _, rfl, _, rfl, len_tx (by have := hk.2.1; omega) ⟨p, x.length, rfl, g3.spr, ?_, small300 (by omega) (by have := hk.2.1; omega), fun H4 r g4 r0 rl => ?_⟩⟩
    · have := List.length_pos_iff.mpr hk.1
      omega
    obtain ⟨k, rfl⟩ := Int.eq_ofNat_of_zero_le r0
    have hkl : k < x.length := by omega
    refine ix_tx (show x.length ≤ 1000000 by have := hk.2.1; omega) (at_ofA (j := k) rfl (List.getElem?_eq_getElem hkl)) ?_
    refine ⟨_, g4.keep _ _ hDp hD, ?_, ⟨fun b o hb e => ?_, ?_⟩, ws ++ [x[k]], ?_, ?_, ?_⟩
    · rw [List.length_map, hws]
      exact Nat.lt_of_lt_of_le (show i < 100000 by omega) (by decide)
    · rw [upd_ne (ne_of_none e nD)]
      exact g4.keep b o hb (g3.keep b o hb e)
    · obtain ⟨F, S, C, h1, h2⟩ := g4.spr
      exact ⟨F, S, C, by rw [upd_ne hDp.symm]; exact h1, h2⟩
    · rw [upd_same, List.map_append]
      rfl
    · rw [List.length_append, hws]
      rfl
    · show (ws ++ [x[k]]).all _ = true
      rw [List.all_append, show ws.all (alpha.contains ·) = true from hpl, List.all_cons, plain_mem hk.2.2 (List.getElem_mem hkl)]
      rfl
  · rintro H3 ⟨g3, ws, hD, hws, hpl⟩
    walk_at "rd"
    have hmap : (ws.map fun c => [c]).map tx = ws.map fun c => tx [c] := by rw [List.map_map]; rfl
    have hfl : (ws.map fun c => [c]).flatten = ws := by
      clear hpl hws hmap hD
      induction ws with
      | nil => rfl
      | cons c ws ih => rw [List.map_cons, List.flatten_cons, ih]; rfl
    refine ⟨tx [], D, (ws.map fun c => [c]).map tx, rfl, rfl, .inl (SqL.of ?_), ?_, ?_⟩
    · rw [hmap, List.map_map]
      exact hD
    · have e1 : (((ws.map fun c => [c]).map tx).map (·.length)) = (ws.map fun c => [c]).map (·.length) := by rw [List.map_map]; exact List.map_congr_left fun x _ => tx_len x
      rw [e1, sum_le_len, hfl, tx_len, List.length_nil, Nat.mul_zero, hws]
      omega
    · rw [join_tx, hfl]
      refine q _ _ (((g0.trans g1).trans g2).trans g3) (fun z => ?_) (by omega) hpl
      rw [z] at hws
      have : (1 + n).toNat = 0 := hws.symm
      omega

/-- a drawn text: a list of tuples, none of them the spring -/
def PcT (p : Addr) (H : Hp) (v : V) (x : List Nat × Nat) : Prop := ∃ b, v = .ref b ∧ b ≠ p ∧ H b = some (.tup [.str (tx x.1), .int (x.2 : Int)])
def TxtL (p : Addr) (H : Hp) (a : Addr) (ps : Pcs) : Prop := a ≠ p ∧ ∃ xs, H a = some (.lst xs) ∧ Paired (PcT p H) xs ps
theorem PcT.go {p : Addr} {H H' : Hp} {v : V} {x : List Nat × Nat} (g : Go p H H') (h : PcT p H v x) : PcT p H' v x := by
  obtain ⟨b, rfl, hb, h⟩ := h
  exact ⟨b, rfl, hb, g.keep _ _ hb h⟩
theorem TxtL.go {p : Addr} {H H' : Hp} {a : Addr} {ps : Pcs} (g : Go p H H') (h : TxtL p H a ps) : TxtL p H' a ps := by
  obtain ⟨h1, xs, h2, h3⟩ := h
  exact ⟨h1, xs, g.keep _ _ h1 h2, prd_same (fun _ _ => PcT.go g) h3⟩
def dOf (ps : Pcs) : Dt := .lst (ps.map fun x => .tup [.str x.1, .int (x.2 : Int)])
theorem pcs_dOf (ps : Pcs) : pcs (dOf ps) = ps := by
  unfold pcs dOf
  show (ps.map fun x => Dt.tup [.str x.1, .int (x.2 : Int)]).map pcOf = ps
  rw [List.map_map]
  conv => rhs; rw [← List.map_id ps]
  refine List.map_congr_left fun x _ => ?_
  show ((x.1, ((x.2 : Int)).toNat) : List Nat × Nat) = id x
  rw [Int.toNat_natCast]
  rfl
theorem isText_dOf {ps : Pcs} (h : Good ps) : isText (dOf ps) = true := by
  have hl : ((dOf ps).items).length = ps.length := by
    show (ps.map fun x => Dt.tup [.str x.1, .int (x.2 : Int)]).length = _
    rw [List.length_map]
  have hall : ((dOf ps).items).all isPiece = true := by
    refine List.all_eq_true.mpr fun d hd => ?_
    obtain ⟨x, hx, rfl⟩ := List.mem_map.mp (show d ∈ ps.map fun x => Dt.tup [.str x.1, .int (x.2 : Int)] from hd)
    obtain ⟨hw, hn⟩ := h.ok x hx
    show (true && (isWord (.str x.1) && isWhole (.int (x.2 : Int)) 1)) = true
    have e1 : isWord (.str x.1) = true := by
      show (x.1.all (alpha.contains ·) && decide (x.1.length ≤ 60) && decide (x.1 ≠ [])) = true
      rw [show x.1.all (alpha.contains ·) = true from hw.1, decide_eq_true hw.2.2, decide_eq_true hw.2.1]
      rfl
    have e2 : isWhole (.int (x.2 : Int)) 1 = true := by
      show decide ((1 : Int) ≤ (x.2 : Int)) = true
      exact decide_eq_true (by omega)
    rw [e1, e2]
    rfl
  unfold isText
  rw [hl, hall, decide_eq_true h.few, sum_size hall]
  have e : (size ((dOf ps).items.map pcOf) : Int) = (size ps : Int) := by
    have := pcs_dOf ps
    unfold pcs at this
    rw [this]
  rw [e, decide_eq_true (by have := h.all; have : ((10 ^ 30 : Nat) : Int) = (10 ^ 30 : Int) := by decide
                            omega)]
  rfl
theorem TxtL.at {K : PySem.W.Frag} {p : Addr} {H : Hp} {a : Addr} {ps : Pcs} (h : TxtL p H a ps) (hg : ∀ x ∈ ps, x.1.length ≤ 60) : At K H (.ref a) (dOf ps) := by
  obtain ⟨_, xs, h2, h3⟩ := h
  unfold dOf At
  refine ⟨a, xs, rfl, SqL.of h2, ?_⟩
  clear h2
  induction h3 with
  | nil => unfold Ats; rfl
  | @cons v x xs ps hv t ih =>
    rw [List.map_cons]
    unfold Ats
    refine ⟨_, _, rfl, ?_, ih fun y hy => hg y (List.mem_cons_of_mem _ hy)⟩
    obtain ⟨b, rfl, _, hb⟩ := hv
    unfold At
    refine ⟨b, _, rfl, SqT.of hb, ?_⟩
    unfold Ats
    refine ⟨_, _, rfl, by unfold At; exact ⟨rfl, Nat.le_trans (hg x (List.mem_cons_self ..)) (by decide)⟩, ?_⟩
    unfold Ats
    refine ⟨_, _, rfl, by unfold At; rfl, ?_⟩
    unfold Ats
    rfl

theorem go_new {p t : Addr} {H H' : Hp} {o : HO} (g : Go p H H') (nt : H' t = none) : Go p H (upd H' t o) := g.same (same_upd nt)
theorem go_mut {p o : Addr} {H H' : Hp} {x : HO} (g : Go p H H') (no : H o = none) (hop : o ≠ p) : Go p H (upd H' o x) := by
  refine ⟨fun b u hb e => by rw [upd_ne (ne_of_none e no)]; exact g.keep b u hb e, ?_⟩
  obtain ⟨F, S, C, h1, h2⟩ := g.spr
  exact ⟨F, S, C, by rw [upd_ne hop.symm]; exact h1, h2⟩

/-! ## lists and tuples, mixed within -/
theorem iteE {c : Bool} {A B : Prop} (h1 : c = true → A) (h2 : c = false → B) : if c = true then A else B := by
  cases c with
  | true => exact iteT (h1 rfl)
  | false => exact iteF (h2 rfl)
theorem norm_row {d : Dt} (h : isRow d = true) : norm d = .lst (d.items.map norm) := by
  cases d with
  | lst ds => simp only [norm, Dt.items, normAll_map]
  | tup ds => simp only [norm, Dt.items, normAll_map]
  | _ => cases h
def spLists (n : Nat) (K : PySem.W.Frag) : Sp := fun vs H Q _ => ∃ v d, vs = [v] ∧ At K H v d ∧ deep d < n ∧ Fits d ∧ bulk d ≤ 300000 ∧
  ∀ H' u fp, Same H H' → AtF H' u (norm d) fp → fp.Nodup → (∀ b ∈ fp, H b = none) → Q u H'
theorem ok__law_lists (T : Txt K mg w) : ∀ n, FnOk P w K mg base CX0 n T.f__law_lists.f T.f__law_lists.fd ["thing"] (spLists n K)
  | 0 => ⟨fun vs H Q E h => by obtain ⟨v, d, rfl, _⟩ := h; rfl, fun A outer s H args us vs Q E _ _ _ _ h => by obtain ⟨v, d, _, _, h, _⟩ := h; exact absurd h (Nat.not_lt_zero _)⟩
  | n + 1 => by
    have ih := ok__law_lists T n
    refine T.f__law_lists.F.ok sc__law_lists (fun vs H Q E h => ?_) (fun cdv A outer s H vs Q E hr h => ?_)
    · obtain ⟨v, d, rfl, _⟩ := h
      rfl
    obtain ⟨v, d, rfl, hv, hdp, hft, hbk, q⟩ := h
    refine ⟨_, (pss_one (ps_ret (pe_ifExp (pt_val (pe_callB call_isiT (by rfl) T.b_isinstance (by decide +kernel) (pa_cons (pv 0) (pa_cons (pe_tup (pa_cons (pe_bltn (v := .ty "list") (by rfl) T.b_list (by decide +kernel) rfl) (pa_cons (pe_bltn (v := .ty "tuple") (by rfl) T.b_tuple (by decide +kernel) rfl) pa_nil))) pa_nil)))) (pe_lc (own := [("inner", 1)]) rfl sc__law_lists.nd (pi_seq (pv 0)) (blkOk_by (own := [("inner", 1)]) (N := N__law_lists) (sc := defScope s__law_lists) (by decide +kernel)) (fun _ _ _ _ _ => (pg_name (i := 1) sc__law_lists.nd rfl (.inl rfl))) (fun _ _ _ _ _ => pts_nil) (fun _ _ _ _ _ => (pe_call (ih) (hr.mono (by first | decide | omega)) (by rfl) T.f__law_lists.g T.f__law_lists.F.kp T.f__law_lists.b .nil pass0 (pa_cons (pv 1) pa_nil)))) (pv 0)))), ?_⟩
    walk_at "rd"
    refine ⟨v, rfl, (by show 2 ≤ sizeLine; decide), fun t nt => ?_⟩
    have s0 : Same H (upd H t (.tup [.ty "list", .ty "tuple"])) := same_upd nt
    have hv0 := At.same s0 _ _ hv
    refine isi_row hv0 upd_same ⟨_, rfl, iteE (fun e => ?_) (fun e => ?_)⟩
    · obtain ⟨a, xs, rfl, hrow, hit⟩ := at_row hv0 e
      have hxl := hit.len
      have hlb := len_bulk d
      refine lc_rowP (a := a) (xs := xs) rfl hrow (Same.refl _) (fun _ => rfl) (fun _ _ _ h => h)
        (fun D i ys H' => Same H H' ∧ H' D = some (.lst ys) ∧ (Same (upd H t (.tup [.ty "list", .ty "tuple"])) H') ∧ ys.length = i ∧ ∃ fs, AtFs H' ys ((d.items.map norm).take i) fs ∧ fs.Nodup ∧ D ∉ fs ∧ ∀ b ∈ fs, H b = none)
        (fun D nD => ⟨s0.trans (same_upd nD), upd_same, same_upd nD, rfl, [], by rw [List.take_zero]; unfold AtFs; exact ⟨rfl, rfl⟩, List.nodup_nil, (fun z => List.not_mem_nil z), fun b hb => (List.not_mem_nil hb).elim⟩)
        (fun D i ys H' p => p.2.2.1) ?_ ?_
      · rintro D i x ys H' nD hx ⟨s1, hD, s2, hyl, fs, hfs, hnd, hDf, hfr⟩
        obtain ⟨c, hc, ac⟩ := hit.at hx
        have hcm := List.mem_of_getElem? hc
        have hi := (List.getElem?_eq_some_iff.mp hc).1
        refine ⟨_, rfl, x, c, rfl, At.same s2 _ _ ac, by have := mem_deep hcm; omega, mem_fits hft hcm, by have := mem_bulk hcm; omega, fun H3 u fp s3 hu hun hufr => ?_⟩
        have hDfp : D ∉ fp := fun z => by
          have := hufr D z
          rw [hD] at this
          cases this
        have hnDp : H D = none := s0.free nD
        refine ⟨ys, s3 _ _ hD, Nat.lt_of_le_of_lt (show ys.length ≤ 300000 by omega) (by decide), ys ++ [u], ?_, upd_same, ?_, by rw [List.length_append, hyl]; rfl, fs ++ fp, ?_, ?_, ?_, ?_⟩
        · exact same_mut (s1.trans s3) hnDp
        · exact same_mut (s2.trans s3) nD
        · rw [take_norm hc]
          refine AtFs.snoc (AtF.same _ _ _ hu (fun b o hb e => ?_)) (AtFs.same _ _ _ hfs (fun b o hb e => ?_))
          · rw [upd_ne (fun z => hDfp (by rw [← z]; exact hb))]
            exact e
          · rw [upd_ne (fun z => hDf (by rw [← z]; exact hb))]
            exact s3 _ _ e
        · refine List.nodup_append.mpr ⟨hnd, hun, fun b hb c2 hc2 z => ?_⟩
          subst z
          obtain ⟨o, ho⟩ := AtFs.trk _ _ _ hfs b hb
          rw [hufr b hc2] at ho
          cases ho
        · intro z
          rcases List.mem_append.mp z with z | z
          · exact hDf z
          · exact hDfp z
        · intro b hb
          rcases List.mem_append.mp hb with hb | hb
          · exact hfr b hb
          · exact s1.free (hufr b hb)
      · rintro D ys H' nD ⟨s1, hD, s2, hyl, fs, hfs, hnd, hDf, hfr⟩
        rw [List.take_of_length_le (by rw [List.length_map, hxl]; exact Nat.le_refl _)] at hfs
        refine q H' (.ref D) (D :: fs) s1 ?_ (List.nodup_cons.mpr ⟨hDf, hnd⟩) (fun b hb => ?_)
        · rw [norm_row e]
          unfold AtF
          exact ⟨D, ys, fs, rfl, hD, hfs, rfl⟩
        · rcases List.mem_cons.mp hb with rfl | hb
          · exact s0.free nD
          · exact hfr b hb
    · exact ⟨_, rfl, q _ v [] s0 (leaf_AtF hv0 hft e) List.nodup_nil (fun b hb => (List.not_mem_nil hb).elim)⟩
def spHanded (K : PySem.W.Frag) : Sp := fun vs H Q _ => ∃ p v d, vs = [.ref p, v] ∧ Spr H p ∧ At K (hid p H) v d ∧ isRow d = true ∧ deep d ≤ 2 ∧ Fits d ∧ bulk d ≤ 300000 ∧
  ∀ H' u e, Go p H H' → At K (hid p H') u e → norm e = norm d → Q u H'
theorem Go.hid {p : Addr} {H H' : Hp} (g : Go p H H') : Same (hid p H) (hid p H') := fun b o h => by
  obtain ⟨h1, h2⟩ := hid_at h
  rw [hid_ne h1]
  exact g.keep b o h1 h2
theorem Spr.some {p : Addr} {H : Hp} (h : Spr H p) : H p ≠ none := by
  obtain ⟨F, S, C, h, _⟩ := h
  rw [h]
  exact nofun
theorem hid_fresh {p : Addr} {H H' : Hp} (h : Spr H p) {v : V} {d : Dt} {fp : List Addr} (hv : AtF H' v d fp) (hf : ∀ b ∈ fp, H b = none) : AtF (hid p H') v d fp :=
  AtF.same _ _ _ hv fun b o hb e => by
    rw [hid_ne (fun z => h.some (by rw [← z]; exact hf b hb))]
    exact e
theorem ok__law_handed (T : Txt K mg w) : FnOk P w K mg base CX0 5 T.f__law_handed.f T.f__law_handed.fd ["spring", "thing"] (spHanded K) := by
  refine T.f__law_handed.F.ok sc__law_handed (fun vs H Q E h => ?_) (fun cdv A outer s H vs Q E hr h => ?_)
  · obtain ⟨p, v, d, rfl, _⟩ := h
    rfl
  obtain ⟨p, v, d, rfl, hp, hv, hrd, hdp, hft, hbk, q⟩ := h
  refine ⟨_, (pss_cons (ps_set (i := 2) sc__law_handed.nd rfl (.inl rfl) (pe_call (ok__law_draw T) (hr.mono (by decide)) (by rfl) T.f__law_draw.g T.f__law_draw.F.kp T.f__law_draw.b .nil pass0 (pa_cons (pv 0) (pa_cons pe_int pa_nil))))
      (pss_cons (ps_if (pt_cmpR op_eq (pv 2) pe_int (nomark _)) (pss_one (ps_ret (pe_call (ok__law_lists T 3) (hr.mono (by first | decide | omega)) (by rfl) T.f__law_lists.g T.f__law_lists.F.kp T.f__law_lists.b .nil pass0 (pa_cons (pv 1) pa_nil)))) pss_nil)
      (pss_cons (ps_if (pt_cmpR op_eq (pv 2) pe_int (nomark _)) (pss_one (ps_ret (pe_lc (own := [("one", 3)]) rfl sc__law_handed.nd (pi_seq (pv 1)) (blkOk_by (own := [("one", 3)]) (N := N__law_handed) (sc := defScope s__law_handed) (by decide +kernel)) (fun _ _ _ _ _ => (pg_name (i := 3) sc__law_handed.nd rfl (.inl rfl))) (fun _ _ _ _ _ => pts_nil) (fun _ _ _ _ _ => (pe_ifExp (pt_cmpR op_eq (pe_call (ok__law_draw T) (hr.mono (by decide)) (by rfl) T.f__law_draw.g T.f__law_draw.F.kp T.f__law_draw.b .nil pass0 (pa_cons (pv 0) (pa_cons pe_int pa_nil))) pe_int (nomark _)) (pe_call (ok__law_lists T 2) (hr.mono (by first | decide | omega)) (by rfl) T.f__law_lists.g T.f__law_lists.F.kp T.f__law_lists.b .nil pass0 (pa_cons (pv 3) pa_nil)) (pv 3)))))) pss_nil)
      (pss_cons (ps_if (pt_cmpR op_eq (pv 2) pe_int (nomark _)) (pss_one (ps_ret (pe_callTy call_tuple_of (by rfl) T.b_tuple (by decide +kernel) (pa_cons (pe_lc (own := [("one", 3)]) rfl sc__law_handed.nd (pi_seq (pv 1)) (blkOk_by (own := [("one", 3)]) (N := N__law_handed) (sc := defScope s__law_handed) (by decide +kernel)) (fun _ _ _ _ _ => (pg_name (i := 3) sc__law_handed.nd rfl (.inl rfl))) (fun _ _ _ _ _ => pts_nil) (fun _ _ _ _ _ => (pe_call (ok__law_lists T 2) (hr.mono (by first | decide | omega)) (by rfl) T.f__law_lists.g T.f__law_lists.F.kp T.f__law_lists.b .nil pass0 (pa_cons (pv 3) pa_nil)))) pa_nil)))) pss_nil)
      (pss_one (ps_ret (pe_ifExp (pt_cmpR op_eq (pv 2) pe_int (nomark _)) (pe_callTy call_tuple_of (by rfl) T.b_tuple (by decide +kernel) (pa_cons (pv 1) pa_nil)) (pv 1)))))))), ?_⟩
  walk_at "rd"
  refine ⟨_, rfl, p, 5, rfl, hp, by decide, by decide, fun H1 r g1 r0 r5 => ?_⟩
  have hv1 := At.same g1.hid _ _ hv
  have hv1' := At.same (hid_same p H1) _ _ hv1
  obtain ⟨a, xs, rfl, hrow, hit⟩ := at_row hv1 hrd
  have hxl := hit.len
  have hlb := len_bulk d
  refine ⟨_, rfl, rfl, _, rfl, ite2 (fun e1 => ?_) (fun e1 => ?_)⟩
  · refine ⟨_, rfl, .ref a, d, rfl, hv1', by omega, hft, hbk, fun H2 u fp s2 hu hnd hf => ?_⟩
    exact q H2 u (norm d) (g1.same s2) (AtF.at _ _ _ (hid_fresh g1.spr hu hf)) (norm_norm d)
  refine ⟨_, rfl, rfl, _, rfl, ite2 (fun e2 => ?_) (fun e2 => ?_)⟩
  · refine lc_rowP (a := a) (xs := xs) rfl hrow (hid_same p H1) (fun _ => rfl) (fun _ _ _ h => h)
      (fun D i ys H' => H1 D = none ∧ Go p H1 H' ∧ H' D = some (.lst ys) ∧ ys.length = i ∧ ∃ es, Ats K (hid D (hid p H')) ys es ∧ es.map norm = (d.items.map norm).take i)
      (fun D nD => ⟨nD, .of_same g1.spr (same_upd nD), upd_same, rfl, [], by unfold Ats; rfl, by rw [List.take_zero]; rfl⟩)
      (fun D i ys H' p => p.2.1.hid.trans (hid_same _ _)) ?_ ?_
    · rintro D i x ys H' nD hx ⟨_, g2, hD, hyl, es, hes, hnm⟩
      obtain ⟨c, hc, ac⟩ := hit.at hx
      have hcm := List.mem_of_getElem? hc
      have hi := (List.getElem?_eq_some_iff.mp hx).1
      have hDp : D ≠ p := g1.spr.ne nD
      have hDd : ∀ {H4 : Hp}, Go p H' H4 → Same (hid p H1) (hid D (hid p H4)) := fun {H4} g b o h => by
        obtain ⟨h1, h2⟩ := hid_at h
        rw [hid_ne (ne_of_none h2 nD)]
        exact (g2.trans g).hid _ _ h
      refine ⟨_, rfl, p, 2, rfl, g2.spr, by decide, by decide, fun H3 r2 g3 r20 r21 => ⟨rfl, _, rfl, ite2 (fun e3 => ?_) (fun e3 => ?_)⟩⟩
      · refine ⟨_, rfl, x, c, rfl, At.same ((hDd g3).trans ((hid_same D _).trans (hid_same p _))) _ _ ac, by have := mem_deep hcm; omega, mem_fits hft hcm, by have := mem_bulk hcm; omega, fun H4 u fp s4 hu hun hufr => ?_⟩
        have g4 := g3.same s4
        have hD4 := g4.keep _ _ hDp hD
        have hDfp : D ∉ fp := fun z => by
          have := hufr D z
          rw [g3.keep _ _ hDp hD] at this
          cases this
        have hu4 : At K (hid D (hid p H4)) u (norm c) := AtF.at _ _ _ (AtF.same _ _ _ (hid_fresh g3.spr hu hufr) (fun b o hb e => by
          rw [hid_ne (fun z => hDfp (by rw [← z]; exact hb))]
          exact e))
        refine ⟨ys, hD4, Nat.lt_of_le_of_lt (show ys.length ≤ 300000 by omega) (by decide), ys ++ [u], nD, go_mut (g2.trans g4) nD hDp, upd_same, by rw [List.length_append, hyl]; rfl, es ++ [norm c], ?_, ?_⟩
        · rw [hid_upd hDp, hid_hid]
          exact Ats.snoc hu4 (Ats.same (hid_mono g4.hid) _ _ hes)
        · rw [take_norm hc, List.map_append, hnm]
          show _ ++ [norm (norm c)] = _
          rw [norm_norm]
      · have hD3 := g3.keep _ _ hDp hD
        refine ⟨_, rfl, ys, hD3, Nat.lt_of_le_of_lt (show ys.length ≤ 300000 by omega) (by decide), ys ++ [x], nD, go_mut (g2.trans g3) nD hDp, upd_same, by rw [List.length_append, hyl]; rfl, es ++ [c], ?_, ?_⟩
        · rw [hid_upd hDp, hid_hid]
          exact Ats.snoc (At.same (hDd g3) _ _ ac) (Ats.same (hid_mono g3.hid) _ _ hes)
        · rw [take_norm hc, List.map_append, hnm]
          rfl
    · rintro D ys H' nD ⟨_, g2, hD, hyl, es, hes, hnm⟩
      have hDp : D ≠ p := g1.spr.ne nD
      rw [List.take_of_length_le (by rw [List.length_map, hxl]; exact Nat.le_refl _)] at hnm
      refine q H' (.ref D) (.lst es) (g1.trans g2) ?_ ?_
      · unfold At
        exact ⟨D, ys, rfl, SqL.of (by rw [hid_ne hDp]; exact hD), Ats.same (hid_same D _) _ _ hes⟩
      · rw [norm_row hrd]
        simp only [norm, normAll_map, hnm]
  refine ⟨_, rfl, rfl, _, rfl, ite2 (fun e3 => ?_) (fun e3 => ?_)⟩
  · refine lc_rowP (a := a) (xs := xs) rfl hrow (hid_same p H1) (fun _ => rfl) (fun _ _ _ h => h)
      (fun D i ys H' => H1 D = none ∧ Same H1 H' ∧ H' D = some (.lst ys) ∧ ys.length = i ∧ ∃ es, Ats K (hid D (hid p H')) ys es ∧ es.map norm = (d.items.map norm).take i)
      (fun D nD => ⟨nD, same_upd nD, upd_same, rfl, [], by unfold Ats; rfl, by rw [List.take_zero]; rfl⟩)
      (fun D i ys H' p => (hid_mono p.2.1).trans (hid_same _ _)) ?_ ?_
    · rintro D i x ys H' nD hx ⟨_, s2, hD, hyl, es, hes, hnm⟩
      obtain ⟨c, hc, ac⟩ := hit.at hx
      have hcm := List.mem_of_getElem? hc
      have hi := (List.getElem?_eq_some_iff.mp hx).1
      have hDp : D ≠ p := g1.spr.ne nD
      refine ⟨_, rfl, x, c, rfl, At.same ((hid_same p _).trans s2) _ _ ac, by have := mem_deep hcm; omega, mem_fits hft hcm, by have := mem_bulk hcm; omega, fun H4 u fp s4 hu hun hufr => ?_⟩
      have hDfp : D ∉ fp := fun z => by
        have := hufr D z
        rw [hD] at this
        cases this
      have hu4 : At K (hid D (hid p H4)) u (norm c) := AtF.at _ _ _ (AtF.same _ _ _ (hid_fresh (g1.spr.same s2) hu hufr) (fun b o hb e => by
        rw [hid_ne (fun z => hDfp (by rw [← z]; exact hb))]
        exact e))
      refine ⟨ys, s4 _ _ hD, Nat.lt_of_le_of_lt (show ys.length ≤ 300000 by omega) (by decide), ys ++ [u], nD, same_mut (s2.trans s4) nD, upd_same, by rw [List.length_append, hyl]; rfl, es ++ [norm c], ?_, ?_⟩
      · rw [hid_upd hDp, hid_hid]
        exact Ats.snoc hu4 (Ats.same (hid_mono (hid_mono s4)) _ _ hes)
      · rw [take_norm hc, List.map_append, hnm]
        show _ ++ [norm (norm c)] = _
        rw [norm_norm]
    · rintro D ys H' nD ⟨_, s2, hD, hyl, es, hes, hnm⟩
      have hDp : D ≠ p := g1.spr.ne nD
      rw [List.take_of_length_le (by rw [List.length_map, hxl]; exact Nat.le_refl _)] at hnm
      refine ⟨D, ys, rfl, .inl ⟨SqL.of hD, fun l nl => ?_⟩⟩
      have hlp : l ≠ p := (g1.spr.same s2).ne nl
      refine q _ (.ref l) (.tup es) ((g1.same s2).same (same_upd nl)) ?_ ?_
      · unfold At
        refine ⟨l, ys, rfl, SqT.of (by rw [hid_ne hlp]; exact upd_same), Ats.same ?_ _ _ hes⟩
        exact (hid_same D _).trans (hid_mono (same_upd nl))
      · rw [norm_row hrd]
        simp only [norm, normAll_map, hnm]
  refine ⟨_, rfl, rfl, _, rfl, ite2 (fun e4 => ?_) (fun e4 => ?_)⟩
  · refine ⟨_, rfl, a, xs, rfl, ?_⟩
    rcases hrow with hs | hs
    · refine .inl ⟨(hid_same p _).seq hs, fun l nl => ?_⟩
      have hlp : l ≠ p := g1.spr.ne nl
      refine q _ (.ref l) (.tup d.items) (g1.same (same_upd nl)) ?_ ?_
      · unfold At
        exact ⟨l, xs, rfl, SqT.of (by rw [hid_ne hlp]; exact upd_same), Ats.same (hid_mono (same_upd nl)) _ _ hit⟩
      · rw [norm_row hrd]
        simp only [norm, normAll_map]
    · exact .inr ⟨sameT (hid_same p _) hs, q H1 _ d g1 hv1 rfl⟩
  · exact ⟨_, rfl, q H1 _ d g1 hv1 rfl⟩

/-! ## alike all through -/
def spSame (n : Nat) (K : PySem.W.Frag) : Sp := fun vs H Q _ => ∃ v u d, vs = [v, u] ∧ At K H v d ∧ At K H u d ∧ deep d < n ∧ Fits d ∧ bulk d ≤ 300000 ∧ ∀ H', Same H H' → Q (.bl true) H'
theorem ok__law_same (T : Txt K mg w) : ∀ n, FnOk P w K mg base CX0 n T.f__law_same.f T.f__law_same.fd ["found", "due"] (spSame n K)
  | 0 => ⟨fun vs H Q E h => by obtain ⟨v, u, d, rfl, _⟩ := h; rfl, fun A outer s H args us vs Q E _ _ _ _ h => by obtain ⟨v, u, d, _, _, _, h, _⟩ := h; exact absurd h (Nat.not_lt_zero _)⟩
  | n + 1 => by
    have ih := ok__law_same T n
    refine T.f__law_same.F.ok sc__law_same (fun vs H Q E h => ?_) (fun cdv A outer s H vs Q E hr h => ?_)
    · obtain ⟨v, u, d, rfl, _⟩ := h
      rfl
    obtain ⟨v, u, d, rfl, hv, hu, hdp, hft, hbk, q⟩ := h
    refine ⟨_, (pss_cons (ps_if (pt_val (pe_callB call_isiT (by rfl) T.b_isinstance (by decide +kernel) (pa_cons (pv 1) (pa_cons (pe_tup (pa_cons (pe_bltn (v := .ty "list") (by rfl) T.b_list (by decide +kernel) rfl) (pa_cons (pe_bltn (v := .ty "tuple") (by rfl) T.b_tuple (by decide +kernel) rfl) pa_nil))) pa_nil)))) (pss_cons (ps_if (PW.pt (pw_or (pt_cmpR op_ne (pe_callB call_isi (by rfl) T.b_isinstance (by decide +kernel) (pa_cons (pv 0) (pa_cons (pe_bltn (v := .ty "list") (by rfl) T.b_list (by decide +kernel) rfl) pa_nil))) (pe_callB call_isi (by rfl) T.b_isinstance (by decide +kernel) (pa_cons (pv 1) (pa_cons (pe_bltn (v := .ty "list") (by rfl) T.b_list (by decide +kernel) rfl) pa_nil))) (nomark _)) (pw_or1 (pt_cmpR op_ne (pe_callB call_isi (by rfl) T.b_isinstance (by decide +kernel) (pa_cons (pv 0) (pa_cons (pe_bltn (v := .ty "tuple") (by rfl) T.b_tuple (by decide +kernel) rfl) pa_nil))) (pe_callB call_isi (by rfl) T.b_isinstance (by decide +kernel) (pa_cons (pv 1) (pa_cons (pe_bltn (v := .ty "tuple") (by rfl) T.b_tuple (by decide +kernel) rfl) pa_nil))) (nomark _))))) (pss_one (ps_ret pe_bl)) pss_nil)
      (pss_one (ps_ret (pe_and (pe_cmpR op_eq (pe_callB (call_lenK K) (by rfl) T.b_len (by decide +kernel) (pa_cons (pv 0) pa_nil)) (pe_callB (call_lenK K) (by rfl) T.b_len (by decide +kernel) (pa_cons (pv 1) pa_nil)) (nomark _)) (pe_one (pe_callB (cr_all rfl) (by rfl) T.b_all (by decide +kernel) (pa_cons (pe_lc (own := [("k", 2)]) rfl sc__law_same.nd (pi_range1 (by rfl) T.b_range (pa_cons (pe_callB (call_lenK K) (by rfl) T.b_len (by decide +kernel) (pa_cons (pv 1) pa_nil)) pa_nil)) (blkOk_by (own := [("k", 2)]) (N := N__law_same) (sc := defScope s__law_same) (by decide +kernel)) (fun _ _ _ _ _ => (pg_name (i := 2) sc__law_same.nd rfl (.inl rfl))) (fun _ _ _ _ _ => pts_nil) (fun _ _ _ _ _ => (pe_call (ih) (hr.mono (by first | decide | omega)) (by rfl) T.f__law_same.g T.f__law_same.F.kp T.f__law_same.b .nil pass0 (pa_cons (pe_ix (ix_seqK K) (pv 0) (pv 2) (fun _ _ => rfl)) (pa_cons (pe_ix (ix_seqK K) (pv 1) (pv 2) (fun _ _ => rfl)) pa_nil))))) pa_nil))))))) pss_nil)
      (pss_cons (ps_if (PW.pt (pw_or (pt_cmpR op_isN (pv 1) pe_non (nomark _)) (pw_or1 (pt_cmpR op_isN (pv 0) pe_non (nomark _))))) (pss_one (ps_ret (pe_and (pe_cmpR op_isN (pv 1) pe_non (nomark _)) (pe_one (pe_cmpR op_isN (pv 0) pe_non (nomark _)))))) pss_nil)
      (pss_cons (ps_if (PW.pt (pw_or (pt_cmpR op_ne (pe_callB call_isi (by rfl) T.b_isinstance (by decide +kernel) (pa_cons (pv 1) (pa_cons (pe_bltn (v := .ty "bool") (by rfl) T.b_bool (by decide +kernel) rfl) pa_nil))) (pe_callB call_isi (by rfl) T.b_isinstance (by decide +kernel) (pa_cons (pv 0) (pa_cons (pe_bltn (v := .ty "bool") (by rfl) T.b_bool (by decide +kernel) rfl) pa_nil))) (nomark _)) (pw_or1 (pt_cmpR op_ne (pe_callB call_isi (by rfl) T.b_isinstance (by decide +kernel) (pa_cons (pv 1) (pa_cons (pe_bltn (v := .ty "str") (by rfl) T.b_str (by decide +kernel) rfl) pa_nil))) (pe_callB call_isi (by rfl) T.b_isinstance (by decide +kernel) (pa_cons (pv 0) (pa_cons (pe_bltn (v := .ty "str") (by rfl) T.b_str (by decide +kernel) rfl) pa_nil))) (nomark _))))) (pss_one (ps_ret pe_bl)) pss_nil)
      (pss_one (ps_ret (pe_cmpR op_eq (pv 0) (pv 1) (nomark _))))))), ?_⟩
    walk_at "rd"
    refine ⟨u, rfl, (by show 2 ≤ sizeLine; decide), fun t nt => ?_⟩
    have s0 : Same H (upd H t (.tup [.ty "list", .ty "tuple"])) := same_upd nt
    have hv0 := At.same s0 _ _ hv
    have hu0 := At.same s0 _ _ hu
    refine isi_row hu0 upd_same ⟨_, rfl, iteE (fun e => ?_) (fun e => ?_)⟩
    · obtain ⟨a, xs, rfl, hrow, hit⟩ := at_row hv0 e
      obtain ⟨b, ys, rfl, hrow2, hit2⟩ := at_row hu0 e
      have hxl := hit.len
      have hyl := hit2.len
      have hlb := len_bulk d
      have neq : ∀ x : V, (!decide (x = x)) = false := fun x => by rw [decide_eq_true rfl]; rfl
      refine ⟨_, rfl, isi_ty hv0 (by decide) ⟨_, rfl, isi_ty hu0 (by decide) ⟨rfl, _, rfl, ?_⟩⟩⟩
      rw [neq]
      refine iteF ⟨_, rfl, isi_ty hv0 (by decide) ⟨_, rfl, isi_ty hu0 (by decide) ⟨rfl, _, rfl, ?_⟩⟩⟩
      rw [neq]
      refine iteF ⟨_, rfl, len_row hrow ⟨_, rfl, len_row hrow2 ⟨rfl, _, rfl, ?_⟩⟩⟩
      rw [hxl, hyl, decide_eq_true rfl]
      refine iteT (lc_rng1 ?_)
      walk_at "rd"
      refine ⟨_, rfl, len_row hrow2 ⟨_, rfl, by omega, by omega, fun D nD => ?_⟩⟩
      have hDr : ((ys.length : Nat) : Int).toNat = d.items.length := by rw [hyl]; rfl
      rw [hDr]
      refine LcGo.range (fun i H' => Same (upd H t (.tup [.ty "list", .ty "tuple"])) H' ∧ H' D = some (.lst (List.replicate i (.bl true)))) ⟨same_upd nD, upd_same⟩ ?_ ?_
      · rintro i H' hi ⟨s1, hD⟩
        have hc : d.items[i]? = some d.items[i] := List.getElem?_eq_getElem hi
        obtain ⟨x, hx, ax⟩ := hit.get hc
        obtain ⟨y, hy, ay⟩ := hit2.get hc
        have hcm := List.mem_of_getElem? hc
        walk_at "rd"
        refine ⟨rfl, _, rfl, _, rfl, ix_row (hrow.same s1) (at_ofA (j := i) (by omega) hx) ⟨_, rfl, _, rfl, ix_row (hrow2.same s1) (at_ofA (j := i) (by omega) hy) ?_⟩⟩
        refine ⟨x, y, _, rfl, At.same s1 _ _ ax, At.same s1 _ _ ay, by have := mem_deep hcm; omega, mem_fits hft hcm, by have := mem_bulk hcm; omega, fun H3 s3 => ?_⟩
        refine ⟨_, s3 _ _ hD, ?_, same_mut (s1.trans s3) nD, ?_⟩
        · rw [List.length_replicate]
          exact Nat.lt_of_le_of_lt (show i ≤ 300000 by omega) (by decide)
        · rw [upd_same, List.replicate_succ']
      · rintro H' ⟨s1, hD⟩
        refine ⟨D, List.replicate d.items.length true, rfl, SqL.of (by rw [hD, List.map_replicate]), ?_⟩
        have ea : (List.replicate d.items.length true).all id = true := by
          rw [List.all_eq_true]
          intro x hx
          rw [List.eq_of_mem_replicate hx]
          rfl
        rw [ea]
        exact q _ (s0.trans s1)
    · have neq : ∀ x : V, (!decide (x = x)) = false := fun x => by rw [decide_eq_true rfl]; rfl
      have deq : ∀ x : V, decide (x = x) = true := fun x => decide_eq_true rfl
      refine ⟨_, rfl, rfl, _, rfl, ?_⟩
      by_cases hn : d = .non
      · subst hn
        unfold At at hv0 hu0
        subst hv0 hu0
        rw [deq]
        refine iteT (iteT ⟨_, rfl, rfl, _, rfl, ?_⟩)
        rw [deq]
        refine iteT ⟨_, rfl, rfl, ?_⟩
        rw [deq]
        exact q _ s0
      · have hvu : v = u ∧ u ≠ .non ∧ scal v u = true := by
          cases d with
          | lst ds => cases e
          | tup ds => cases e
          | non => exact absurd rfl hn
          | bl b => unfold At at hv0 hu0; subst hv0 hu0; exact ⟨rfl, nofun, rfl⟩
          | int i => unfold At at hv0 hu0; subst hv0 hu0; exact ⟨rfl, nofun, rfl⟩
          | str w => unfold At at hv0 hu0; obtain ⟨rfl, _⟩ := hv0; obtain ⟨rfl, _⟩ := hu0; exact ⟨rfl, nofun, rfl⟩
          | dic => unfold Fits at hft; exact hft.elim
        obtain ⟨rfl, hnn, hsc⟩ := hvu
        rw [decide_eq_false hnn]
        refine iteF ⟨_, rfl, rfl, _, rfl, ?_⟩
        rw [decide_eq_false hnn]
        refine iteF ⟨_, rfl, isi_ty hu0 (by decide) ⟨_, rfl, isi_ty hv0 (by decide) ⟨rfl, _, rfl, ?_⟩⟩⟩
        rw [neq]
        refine iteF ⟨_, rfl, isi_ty hu0 (by decide) ⟨_, rfl, isi_ty hv0 (by decide) ⟨rfl, _, rfl, ?_⟩⟩⟩
        rw [neq]
        refine iteF ⟨_, rfl, _, rfl, hsc, ?_⟩
        rw [deq]
        exact q _ s0

def KeyT (p : Addr) (H : Hp) (v : V) (k : Ky) : Prop := ∃ b, v = .ref b ∧ b ≠ p ∧ H b = some (.tup k.vs)
def HandL (p : Addr) (H : Hp) (a : Addr) (ks : List Ky) : Prop := a ≠ p ∧ ∃ xs, H a = some (.lst xs) ∧ Paired (KeyT p H) xs ks
theorem KeyT.go {p : Addr} {H H' : Hp} {v : V} {k : Ky} (g : Go p H H') (h : KeyT p H v k) : KeyT p H' v k := by
  obtain ⟨b, rfl, hb, h⟩ := h
  exact ⟨b, rfl, hb, g.keep _ _ hb h⟩
theorem HandL.go {p : Addr} {H H' : Hp} {a : Addr} {ks : List Ky} (g : Go p H H') (h : HandL p H a ks) : HandL p H' a ks := by
  obtain ⟨ha, xs, h1, h2⟩ := h
  exact ⟨ha, xs, g.keep _ _ ha h1, prd_same (fun _ _ => KeyT.go g) h2⟩
theorem HandL.at {K : PySem.W.Frag} {p : Addr} {H : Hp} {a : Addr} {ks : List Ky} (h : HandL p H a ks) : HandAt K H (.ref a) ks := by
  obtain ⟨ha, xs, h1, h2⟩ := h
  refine ⟨a, xs, rfl, .inl (SqL.of h1), prd_same (fun v k hk => ?_) h2⟩
  obtain ⟨b, rfl, _, hb⟩ := hk
  exact ⟨b, rfl, .inr (SqT.of hb)⟩
theorem prd_fr {p a : Addr} {H H' : Hp} {xs zs : List V} {ks : List Ky} (ha : H a = some (.lst zs)) (fr : ∀ b o, b ≠ a → b ≠ p → H b = some o → H' b = some o) (h : Paired (KeyT p H) xs ks) : Paired (KeyT p H') xs ks :=
  prd_same (fun v k ⟨b, e, hb, hk⟩ => ⟨b, e, hb, fr b _ (fun z => by rw [z, ha] at hk; cases hk) hb hk⟩) h
theorem set_last {α : Type} (xs : List α) (u v : α) : (xs ++ [u]).set xs.length v = xs ++ [v] := by
  rw [List.set_append_right _ _ (Nat.le_refl _), Nat.sub_self]
  rfl
theorem ixN_last {α : Type} (xs : List α) (u : α) : ixN (xs ++ [u]).length (-1) = some xs.length := by
  rw [List.length_append]
  unfold ixN
  simp
  try omega
theorem prd_app {α β : Type} {R : α → β → Prop} : ∀ {xs : List α} {ys : List β} {us : List α} {vs : List β}, Paired R xs ys → Paired R us vs → Paired R (xs ++ us) (ys ++ vs)
  | _, _, _, _, .nil, h => h
  | _, _, _, _, .cons r t, h => .cons r (prd_app t h)
theorem mvk (z : Str) (h : z ∈ (["left", "right", "strike", "rub", "copy", "cut"] : List Str)) (n : Nat) : ∃ k : Ky, k.vs = [.str z, .int n] ∧ k.wt = n ∧ (1 ≤ n → k.ok) ∧ z ≠ "write" ∧ z ≠ "paste" := by
  simp only [List.mem_cons, List.not_mem_nil, or_false] at h
  rcases h with rfl | rfl | rfl | rfl | rfl | rfl
  · exact ⟨.left n, rfl, rfl, id, by decide, by decide⟩
  · exact ⟨.right n, rfl, rfl, id, by decide, by decide⟩
  · exact ⟨.strike n, rfl, rfl, id, by decide, by decide⟩
  · exact ⟨.rub n, rfl, rfl, id, by decide, by decide⟩
  · exact ⟨.copy n, rfl, rfl, id, by decide, by decide⟩
  · exact ⟨.cut n, rfl, rfl, id, by decide, by decide⟩
theorem names8 {r : Int} (h0 : 0 ≤ r) (h : r < 8) : ∃ z : Str, atI [V.str "left", V.str "right", V.str "strike", V.str "rub", V.str "copy", V.str "cut", V.str "write", V.str "paste"] r = some (.str z) ∧ (z = "write" ∨ z = "paste" ∨ z ∈ (["left", "right", "strike", "rub", "copy", "cut"] : List Str)) := by
  obtain ⟨n, rfl⟩ := Int.eq_ofNat_of_zero_le h0
  have hn : n < 8 := by omega
  match n, hn with
  | 0, _ => exact ⟨"left", at_ofA (j := 0) rfl rfl, .inr (.inr (by decide))⟩
  | 1, _ => exact ⟨"right", at_ofA (j := 1) rfl rfl, .inr (.inr (by decide))⟩
  | 2, _ => exact ⟨"strike", at_ofA (j := 2) rfl rfl, .inr (.inr (by decide))⟩
  | 3, _ => exact ⟨"rub", at_ofA (j := 3) rfl rfl, .inr (.inr (by decide))⟩
  | 4, _ => exact ⟨"copy", at_ofA (j := 4) rfl rfl, .inr (.inr (by decide))⟩
  | 5, _ => exact ⟨"cut", at_ofA (j := 5) rfl rfl, .inr (.inr (by decide))⟩
  | 6, _ => exact ⟨"write", at_ofA (j := 6) rfl rfl, .inl rfl⟩
  | 7, _ => exact ⟨"paste", at_ofA (j := 7) rfl rfl, .inr (.inl rfl)⟩
def knames : List Str := ["left", "right", "strike", "rub", "copy", "cut", "write", "paste"]
def spLHand : Sp := fun vs H Q _ => ∃ (p : Addr) (m v : Int), vs = [.ref p, .int m, .int v] ∧ Spr H p ∧ 0 ≤ m ∧ m ≤ 1000 ∧ 1 ≤ v ∧ v ≤ 1000 ∧ ∀ H' a ks, Go p H H' → H a = none → HandL p H' a ks → (∀ k ∈ ks, k.ok) → hwt ks ≤ 60 → (ks.length : Int) ≤ m → Q (.ref a) H'
theorem ok__law_hand (T : Txt K mg w) : FnOk P w K mg base CX0 3 T.f__law_hand.f T.f__law_hand.fd ["spring", "most", "wide"] spLHand := by
  refine T.f__law_hand.F.ok sc__law_hand (fun vs H Q E h => ?_) (fun cdv A outer s H vs Q E hr h => ?_)
  · obtain ⟨p, m, v, rfl, _⟩ := h
    rfl
  obtain ⟨p, m, v, rfl, hp, m0, m1, v0, v1, q⟩ := h
  refine ⟨_, (pss_cons (ps_set (i := 3) sc__law_hand.nd rfl (.inl rfl) (pe_lst pa_nil))
      (pss_cons (ps_set (i := 4) sc__law_hand.nd rfl (.inl rfl) pe_int)
      (pss_cons (ps_for PassesOwn.never rfl (pi_range1 (by rfl) T.b_range (pa_cons (pe_call (ok__law_draw T) (hr.mono (by decide)) (by rfl) T.f__law_draw.g T.f__law_draw.F.kp T.f__law_draw.b .nil pass0 (pa_cons (pv 0) (pa_cons (pe_op op_add (pv 1) pe_int) pa_nil))) pa_nil)) (pg_name (i := 5) sc__law_hand.nd rfl (.inl rfl))
        (pss_cons (ps_set (i := 6) sc__law_hand.nd rfl (.inl rfl) (pe_callB (call_min2 rfl) (by rfl) T.b_min (by decide +kernel) (pa_cons (pv 4) (pa_cons (pe_op op_add pe_int (pe_call (ok__law_draw T) (hr.mono (by decide)) (by rfl) T.f__law_draw.g T.f__law_draw.F.kp T.f__law_draw.b .nil pass0 (pa_cons (pv 0) (pa_cons (pv 2) pa_nil)))) pa_nil))))
      (pss_cons (ps_set (i := 7) sc__law_hand.nd rfl (.inl rfl) (pe_ix ix_seq (pe_lst (pa_cons pe_str (pa_cons pe_str (pa_cons pe_str (pa_cons pe_str (pa_cons pe_str (pa_cons pe_str (pa_cons pe_str (pa_cons pe_str pa_nil))))))))) (pe_call (ok__law_draw T) (hr.mono (by decide)) (by rfl) T.f__law_draw.g T.f__law_draw.F.kp T.f__law_draw.b .nil pass0 (pa_cons (pv 0) (pa_cons pe_int pa_nil))) (fun _ _ => rfl)))
      (pss_one (ps_if (pt_cmpR op_gt (pv 4) pe_int (nomark _)) (pss_cons (ps_expr (pe_bm PySem.F.plainAttrs_list PySem.F.slot_list_append PySem.F.type_list_append mt_append (pv 3) (pa_cons (pe_tup (pa_cons (pv 7) (pa_cons (pv 6) pa_nil))) pa_nil)))
      (pss_cons (ps_if (pt_cmpR op_eq (pv 7) pe_str (nomark _)) (pss_one (ps_asg (pe_tup (pa_cons (pv 7) (pa_cons (pe_slice sl_str (pe_op op_add_str (pe_call (ok__law_word T) (hr.mono (by decide)) (by rfl) T.f__law_word.g T.f__law_word.F.kp T.f__law_word.b .nil pass0 (pa_cons (pv 0) (pa_cons (pv 6) pa_nil))) (pe_op op_mul_str pe_str pe_int)) po_none (po_some (pv 6))) pa_nil))) (pg_sub (pv 3) (pe_un un_neg pe_int) set_list))) pss_nil)
      (pss_cons (ps_if (pt_cmpR op_eq (pv 7) pe_str (nomark _)) (pss_one (ps_asg (pe_tup (pa_cons (pv 7) pa_nil)) (pg_sub (pv 3) (pe_un un_neg pe_int) set_list))) pss_nil)
      (pss_one (ps_set (i := 4) sc__law_hand.nd rfl (.inl rfl) (pe_op op_sub (pv 4) (pe_ifExp (pt_cmpR op_eq (pv 7) pe_str (nomark _)) pe_int (pv 6)))))))) pss_nil)))))
      (pss_one (ps_ret (pv 3)))))), ?_⟩
  walk_at "rd"
  refine ⟨by show 0 ≤ sizeLine; decide, fun a na => ?_⟩
  have hap : a ≠ p := hp.ne na
  have g0 := Go.of_same hp (same_upd (o := .lst []) na)
  refine fr_rng1 ?_
  walk_at "rd"
  refine ⟨_, rfl, _, rfl, _, _, rfl, rfl, p, _, rfl, g0.spr, by omega, small300 (by omega) (by omega), fun H1 n g1 n0 nm => ⟨_, rfl, by omega, by omega, ?_⟩⟩
  have g1 := g0.trans g1
  have ha1 : H1 a = some (.lst []) := by
    rename_i g2
    exact g2.keep _ _ hap upd_same
  refine ForGo.range (fun i σ H' => ∃ (room : Nat) (ks : List Ky) (x y z : Option V), σ = [some (.ref p), some (.int m), some (.int v), some (.ref a), some (.int room), x, y, z] ∧ Go p H H' ∧ HandL p H' a ks ∧ (∀ k ∈ ks, k.ok) ∧ hwt ks + room ≤ 60 ∧ ks.length ≤ i)
    ⟨60, [], none, none, none, rfl, g1, ⟨hap, [], ha1, .nil⟩, (fun k h => by cases h), Nat.le_refl _, Nat.le_refl _⟩ ?_ ?_
  · rintro i σ H2 hi ⟨room, ks, x, y, z, rfl, g2, hL, hok, hwr, hki⟩
    walk_at "rd"
    refine ⟨_, rfl, _, rfl, _, rfl, p, v, rfl, g2.spr, by omega, small300 (by omega) (by omega), fun H3 n3 g3 n30 n3v => ?_⟩
    have hsz : ∃ sz : Nat, (if 1 + n3 < (room : Int) then 1 + n3 else (room : Int)) = (sz : Int) ∧ sz ≤ room ∧ (1 ≤ room → 1 ≤ sz) := by
      refine ⟨(if 1 + n3 < (room : Int) then 1 + n3 else (room : Int)).toNat, ?_, ?_, fun h => ?_⟩ <;> split <;> omega
    obtain ⟨sz, esz, hszr, hsz1⟩ := hsz
    have g3 := g2.trans g3
    refine ⟨_, _, rfl, rfl, _, _, rfl, by show 8 ≤ sizeLine; decide, fun l nl => ?_⟩
    rw [esz]
    have hlp : l ≠ p := g3.spr.ne nl
    have g4 := g3.same (same_upd (o := .lst [V.str "left", V.str "right", V.str "strike", V.str "rub", V.str "copy", V.str "cut", V.str "write", V.str "paste"]) nl)
    refine ⟨_, rfl, p, 8, rfl, g4.spr, by decide, by decide, fun H4 r g5 r0 r8 => ?_⟩
    obtain ⟨zn, hz, hzn⟩ := names8 r0 r8
    refine ix_lst (g5.keep _ _ hlp upd_same) hz ?_
    have g5 := g4.trans g5
    have hL : HandL p H4 a ks := by
      rename_i gg3 gg5
      exact ((hL.go gg3).go (.of_same gg3.spr (same_upd nl))).go gg5
    clear hz
    refine ⟨_, rfl, _, _, rfl, rfl, _, rfl, ite2 (fun hroom => ?_) (fun hroom => ?_)⟩
    · have hroom : 0 < (room : Int) := of_decide_eq_true hroom
      have hsz1 := hsz1 (by omega)
      obtain ⟨_, xs, hxs, hpx⟩ := hL
      have hlx : xs.length = ks.length := prd_len hpx
      have hkl := len_hwt hok
      refine ⟨_, rfl, .inl ⟨rfl, _, SqL.of hxs⟩, _, rfl, _, rfl, by show 2 ≤ sizeLine; decide, fun t nt => ?_⟩
      have hta : t ≠ a := fun e => by rw [e, hxs] at nt; cases nt
      have htp : t ≠ p := g5.spr.ne nt
      refine ⟨a, xs, _, rfl, rfl, by rw [upd_ne hta.symm]; exact hxs, Nat.lt_of_le_of_lt (show xs.length ≤ 60 by omega) (by decide), ?_⟩
      have g6 : Go p H (upd (upd H4 t (.tup [.str zn, .int sz])) a (.lst (xs ++ [.ref t]))) := by
        refine ⟨fun b o hb e => ?_, ?_⟩
        · have hba : b ≠ a := fun e2 => by rw [e2, na] at e; cases e
          have e4 := g5.keep b o hb e
          rw [upd_ne hba, upd_ne (fun e2 => by rw [e2, nt] at e4; cases e4)]
          exact e4
        · obtain ⟨F, S, C, h1, h2⟩ := g5.spr
          exact ⟨F, S, C, by rw [upd_ne hap.symm, upd_ne htp.symm]; exact h1, h2⟩
      have fr5 : ∀ b o, b ≠ a → b ≠ p → H4 b = some o → (upd (upd H4 t (.tup [.str zn, .int sz])) a (.lst (xs ++ [.ref t]))) b = some o := fun b o hba _ e => by
        rw [upd_ne hba, upd_ne (fun e2 => by rw [e2, nt] at e; cases e)]
        exact e
      have hpx5 := prd_fr hxs fr5 hpx
      have hA5 : (upd (upd H4 t (.tup [.str zn, .int sz])) a (.lst (xs ++ [.ref t]))) a = some (.lst (xs ++ [.ref t])) := upd_same
      have hT5 : (upd (upd H4 t (.tup [.str zn, .int sz])) a (.lst (xs ++ [.ref t]))) t = some (.tup [.str zn, .int sz]) := by rw [upd_ne hta, upd_same]
      generalize upd (upd H4 t (.tup [.str zn, .int sz])) a (.lst (xs ++ [.ref t])) = H5 at *
      have lenA : ∀ k : Ky, (ks ++ [k]).length ≤ i + 1 := fun k => by rw [List.length_append]; exact Nat.succ_le_succ hki
      have okA : ∀ k : Ky, k.ok → ∀ k' ∈ ks ++ [k], k'.ok := fun k hk k' h => by
        rcases List.mem_append.mp h with h | h
        · exact hok k' h
        · rw [List.mem_singleton.mp h]
          exact hk
      have wtA : ∀ k : Ky, k.wt ≤ room → hwt (ks ++ [k]) + (room - k.wt) ≤ 60 := fun k hk => by
        rw [hwt_app, hwt_cons]
        show hwt ks + (k.wt + 0) + (room - k.wt) ≤ 60
        omega
      have put : ∀ (H6 : Hp), Go p H5 H6 → ∀ (t2 : Addr) (k : Ky) (zs : List V), k.vs = zs → H6 t2 = none →
          (upd H6 t2 (.tup zs)) a = some (.lst (xs ++ [.ref t])) ∧ Go p H (upd (upd H6 t2 (.tup zs)) a (.lst (xs ++ [.ref t2]))) ∧ HandL p (upd (upd H6 t2 (.tup zs)) a (.lst (xs ++ [.ref t2]))) a (ks ++ [k]) := fun H6 g7 t2 k zs hzs nt2 => by
        subst hzs
        have hA6 := g7.keep _ _ hap hA5
        have h2a : t2 ≠ a := fun e => by rw [e, hA6] at nt2; cases nt2
        have h2p : t2 ≠ p := g7.spr.ne nt2
        have hA7 : (upd H6 t2 (.tup k.vs)) a = some (.lst (xs ++ [.ref t])) := by rw [upd_ne h2a.symm]; exact hA6
        have fr7 : ∀ b o, b ≠ a → b ≠ p → H5 b = some o → (upd (upd H6 t2 (.tup k.vs)) a (.lst (xs ++ [.ref t2]))) b = some o := fun b o hba hbp e => by
          have e6 := g7.keep b o hbp e
          rw [upd_ne hba, upd_ne (fun e2 => by rw [e2, nt2] at e6; cases e6)]
          exact e6
        refine ⟨hA7, ⟨fun b o hb e => fr7 b o (fun e2 => by rw [e2, na] at e; cases e) hb (g6.keep b o hb e), ?_⟩, hap, xs ++ [.ref t2], upd_same, prd_app (prd_fr hA5 fr7 hpx5) (.cons ⟨t2, rfl, h2p, by rw [upd_ne h2a, upd_same]⟩ .nil)⟩
        obtain ⟨F, S, C, h1, h2⟩ := g7.spr
        exact ⟨F, S, C, by rw [upd_ne hap.symm, upd_ne h2p.symm]; exact h1, h2⟩
      rcases hzn with rfl | rfl | hzn
      · -- write
        refine ⟨_, rfl, rfl, st_yes ⟨_, rfl, _, rfl, _, rfl, p, sz, rfl, g6.spr, by omega, by omega, fun H6 wd g7 wne wl wpl => ?_⟩⟩
        refine ⟨tx [120], 60, rfl, rfl, mul_ok (n := 60) 1 60 (Nat.le_refl _) (Nat.le_refl _) (by decide) (by decide), ?_⟩
        rw [show Txt.mul (tx [120]) 60 = tx (List.replicate 60 [120]).flatten from mul_tx [120] 60]
        have h60 : (List.replicate 60 [120]).flatten = List.replicate 60 120 := by decide
        rw [h60]
        refine ⟨_, _, rfl, rfl, ?_, _, rfl, _, rfl, ?_⟩
        · rw [tx_len, tx_len, List.length_replicate]
          exact Nat.le_trans (show wd.length + 60 ≤ 200 by omega) (by decide)
        rw [tx_app]
        refine ⟨_, rfl, ?_, ?_⟩
        · rw [tx_len, List.length_append, List.length_replicate]
          exact Nat.le_trans (show wd.length + 60 ≤ 200 by omega) (by decide)
        rw [cut__n]
        have hwl : ((wd ++ List.replicate 60 120).take sz).length = sz := by
          rw [List.length_take, List.length_append, List.length_replicate]
          omega
        have hwp : Plain ((wd ++ List.replicate 60 120).take sz) := by
          refine List.all_eq_true.mpr fun c hc => ?_
          rcases List.mem_append.mp (List.mem_of_mem_take hc) with hc | hc
          · exact plain_mem wpl hc
          · rw [List.eq_of_mem_replicate hc]
            decide
        generalize (wd ++ List.replicate 60 120).take sz = w2 at *
        have hok2 : (Ky.write w2).ok := ⟨fun e => by rw [e] at hwl; simp at hwl; omega, by omega, hwp⟩
        refine ⟨by show 2 ≤ sizeLine; decide, fun t2 nt2 => ?_⟩
        obtain ⟨u1, u2, u3⟩ := put H6 g7 t2 (.write w2) [.str "write", .str (tx w2)] rfl nt2
        refine ⟨_, rfl, _, rfl, a, xs ++ [.ref t], -1, xs.length, rfl, rfl, u1, ixN_last _ _, ?_⟩
        rw [set_last]
        walk_at "rd"
        refine ⟨_, rfl, rfl, st_no (by decide) ⟨_, rfl, _, rfl, rfl, st_no (by decide) ⟨_, rfl, _, _, rfl, rfl, room - sz, ks ++ [.write w2], some (.int (0 + i)), some (.int sz), some (.str "write"), ?_, u2, u3, okA _ hok2, ?_, lenA _⟩⟩⟩
        · have e : ((room : Int) - (sz : Int)) = ((room - sz : Nat) : Int) := by omega
          dsimp only
          rw [e]
          rfl
        · have := wtA (.write w2) (show w2.length ≤ room by omega)
          rw [show (Ky.write w2).wt = sz from hwl] at this
          exact this
      · -- paste
        refine ⟨_, rfl, rfl, st_no (by decide) ⟨_, rfl, rfl, st_yes ⟨_, rfl, by show 1 ≤ sizeLine; decide, fun t2 nt2 => ?_⟩⟩⟩
        obtain ⟨u1, u2, u3⟩ := put H5 (.refl g6.spr) t2 .paste [.str "paste"] rfl nt2
        refine ⟨_, rfl, _, rfl, a, xs ++ [.ref t], -1, xs.length, rfl, rfl, u1, ixN_last _ _, ?_⟩
        rw [set_last]
        walk_at "rd"
        refine ⟨_, rfl, _, rfl, rfl, st_yes ⟨_, _, rfl, rfl, room - 1, ks ++ [.paste], some (.int (0 + i)), some (.int sz), some (.str "paste"), ?_, u2, u3, okA .paste trivial, wtA .paste (show 1 ≤ room by omega), lenA _⟩⟩
        have e : ((room : Int) - 1) = ((room - 1 : Nat) : Int) := by omega
        dsimp only
        rw [e]
        rfl
      · obtain ⟨k, kvs, kwt, kok, z1, z2⟩ := mvk zn hzn sz
        refine ⟨_, rfl, rfl, st_no z1 ⟨_, rfl, rfl, st_no z2 ?_⟩⟩
        refine ⟨_, rfl, _, rfl, rfl, st_no z2 ⟨_, rfl, _, _, rfl, rfl, room - sz, ks ++ [k], some (.int (0 + i)), some (.int sz), some (.str zn), ?_, g6, ⟨hap, xs ++ [.ref t], hA5, prd_app hpx5 (.cons ⟨t, rfl, htp, by rw [kvs]; exact hT5⟩ .nil)⟩, okA _ (kok hsz1), ?_, lenA _⟩⟩
        · have e : ((room : Int) - (sz : Int)) = ((room - sz : Nat) : Int) := by omega
          dsimp only
          rw [e]
          rfl
        · have := wtA k (by omega)
          rw [kwt] at this
          exact this
    · exact ⟨room, ks, _, _, _, rfl, g5, hL, hok, hwr, by omega⟩
  · rintro σ H2 ⟨room, ks, x, y, z, rfl, g2, hL, hok, hwr, hki⟩
    walk_at "rd"
    exact ⟨_, rfl, q _ a ks g2 na hL hok (by omega) (by omega)⟩

def spLSheet : Sp := fun vs H Q _ => ∃ (p : Addr) (m : Int), vs = [.ref p, .int m] ∧ Spr H p ∧ 0 ≤ m ∧ m ≤ 1000 ∧ ∀ H' a s, Go p H H' → a ≠ p → H' a = some (.tup (Sh.vs s)) → GoodS s → (s.w.length : Int) ≤ m → Q (.ref a) H'
theorem plain_sub {x y : List Nat} (h : Plain x) (hs : ∀ c ∈ y, c ∈ x) : Plain y := List.all_eq_true.mpr fun c hc => plain_mem h (hs c hc)
theorem ok__law_sheet (T : Txt K mg w) : FnOk P w K mg base CX0 3 T.f__law_sheet.f T.f__law_sheet.fd ["spring", "most"] spLSheet := by
  refine T.f__law_sheet.F.ok sc__law_sheet (fun vs H Q E h => ?_) (fun cdv A outer s H vs Q E hr h => ?_)
  · obtain ⟨p, m, rfl, _⟩ := h
    rfl
  obtain ⟨p, m, rfl, hp, m0, m1, q⟩ := h
  refine ⟨_, (pss_cons (ps_set (i := 2) sc__law_sheet.nd rfl (.inl rfl) (pe_slice sl_str (pe_op op_add_str (pe_call (ok__law_word T) (hr.mono (by decide)) (by rfl) T.f__law_word.g T.f__law_word.F.kp T.f__law_word.b .nil pass0 (pa_cons (pv 0) (pa_cons (pe_op op_add (pv 1) pe_int) pa_nil))) pe_str) (po_some pe_int) po_none))
      (pss_cons (ps_set (i := 3) sc__law_sheet.nd rfl (.inl rfl) (pe_ix ix_seq (pe_lst (pa_cons pe_int (pa_cons (pe_callB (call_lenK K) (by rfl) T.b_len (by decide +kernel) (pa_cons (pv 2) pa_nil)) (pa_cons (pe_call (ok__law_draw T) (hr.mono (by decide)) (by rfl) T.f__law_draw.g T.f__law_draw.F.kp T.f__law_draw.b .nil pass0 (pa_cons (pv 0) (pa_cons (pe_op op_add (pe_callB (call_lenK K) (by rfl) T.b_len (by decide +kernel) (pa_cons (pv 2) pa_nil)) pe_int) pa_nil))) pa_nil)))) (pe_call (ok__law_draw T) (hr.mono (by decide)) (by rfl) T.f__law_draw.g T.f__law_draw.F.kp T.f__law_draw.b .nil pass0 (pa_cons (pv 0) (pa_cons pe_int pa_nil))) (fun _ _ => rfl)))
      (pss_cons (ps_set (i := 4) sc__law_sheet.nd rfl (.inl rfl) (pe_slice sl_str (pe_call (ok__law_word T) (hr.mono (by decide)) (by rfl) T.f__law_word.g T.f__law_word.F.kp T.f__law_word.b .nil pass0 (pa_cons (pv 0) (pa_cons pe_int pa_nil))) po_none (po_some (pe_ix ix_seq (pe_lst (pa_cons pe_int (pa_cons pe_int (pa_cons pe_int pa_nil)))) (pe_call (ok__law_draw T) (hr.mono (by decide)) (by rfl) T.f__law_draw.g T.f__law_draw.F.kp T.f__law_draw.b .nil pass0 (pa_cons (pv 0) (pa_cons pe_int pa_nil))) (fun _ _ => rfl)))))
      (pss_one (ps_ret (pe_tup (pa_cons (pv 2) (pa_cons (pv 3) (pa_cons (pv 4) pa_nil))))))))), ?_⟩
  walk_at "rd"
  refine ⟨_, rfl, _, rfl, _, _, rfl, rfl, p, _, rfl, hp, by omega, by omega, fun H1 x g1 xne xl xpl => ?_⟩
  refine ⟨_, _, rfl, rfl, by rw [tx_len]; exact Nat.le_trans (show x.length + 0 ≤ 2000 by omega) (by decide), 1, rfl, _, rfl, ?_, ?_⟩
  · rw [← tx_nil, tx_app, tx_len, List.append_nil]
    exact Nat.le_trans (show x.length ≤ 2000 by omega) (by decide)
  rw [← tx_nil, tx_app, List.append_nil, show (1 : Int) = ((1 : Nat) : Int) from rfl, cut_n_]
  have hwl : ((x.drop 1).length : Int) ≤ m := by rw [List.length_drop]; omega
  have hwp : Plain (x.drop 1) := plain_sub xpl fun c hc => List.mem_of_mem_drop hc
  generalize x.drop 1 = wd at *
  refine ⟨_, rfl, len_tx (by omega) ⟨_, rfl, _, rfl, len_tx (by omega) ⟨_, _, rfl, rfl, p, _, rfl, g1.spr, by omega, small300 (by omega) (by omega), fun H2 r2 g2 r20 r2l => ?_⟩⟩⟩
  refine ⟨by show 3 ≤ sizeLine; decide, fun l nl => ⟨_, rfl, p, 3, rfl, (g2.spr).same (same_upd nl), by decide, by decide, fun H3 r3 g3 r30 r33 => ?_⟩⟩
  have hlp : l ≠ p := g2.spr.ne nl
  have hcur : ∃ n : Nat, atI [V.int 0, V.int (wd.length : Int), V.int r2] r3 = some (.int (n : Int)) ∧ n ≤ wd.length := by
    obtain ⟨i, rfl⟩ := Int.eq_ofNat_of_zero_le r30
    have hi : i < 3 := by omega
    match i, hi with
    | 0, _ => exact ⟨0, at_ofA (j := 0) rfl rfl, Nat.zero_le _⟩
    | 1, _ => exact ⟨wd.length, at_ofA (j := 1) rfl rfl, Nat.le_refl _⟩
    | 2, _ => exact ⟨r2.toNat, at_ofA (j := 2) rfl (by rw [Int.toNat_of_nonneg r20]; rfl), by omega⟩
  obtain ⟨n, hn, hnl⟩ := hcur
  have g3a : Go p H H3 := ((g1.trans g2).same (same_upd nl)).trans g3
  refine ix_lst (g3.keep _ _ hlp upd_same) hn ?_
  refine ⟨_, rfl, p, 60, rfl, g3a.spr, by decide, by decide, fun H4 y g4 yne yl ypl => ⟨by show 3 ≤ sizeLine; decide, fun l2 nl2 => ?_⟩⟩
  have hl2p : l2 ≠ p := g4.spr.ne nl2
  refine ⟨_, rfl, p, 3, rfl, g4.spr.same (same_upd nl2), by decide, by decide, fun H5 r5 g5 r50 r53 => ?_⟩
  have hcl : ∃ j : Nat, atI [V.int 0, V.int 3, V.int 60] r5 = some (.int (j : Int)) := by
    obtain ⟨i, rfl⟩ := Int.eq_ofNat_of_zero_le r50
    have hi : i < 3 := by omega
    match i, hi with
    | 0, _ => exact ⟨0, at_ofA (j := 0) rfl rfl⟩
    | 1, _ => exact ⟨3, at_ofA (j := 1) rfl rfl⟩
    | 2, _ => exact ⟨60, at_ofA (j := 2) rfl rfl⟩
  obtain ⟨j, hj⟩ := hcl
  refine ix_lst (g5.keep _ _ hl2p upd_same) hj ⟨_, rfl, tx y, rfl, by rw [tx_len]; exact Nat.le_trans (show y.length ≤ 60 by omega) (by decide), ?_⟩
  rw [cut__n]
  have g5a : Go p H H5 := ((g3a.trans g4).same (same_upd nl2)).trans g5
  refine ⟨_, rfl, _, rfl, _, rfl, by show 3 ≤ sizeLine; decide, fun t nt => q _ t ⟨wd, n, y.take j⟩ (g5a.same (same_upd nt)) (g5a.spr.ne nt) upd_same ⟨hwp, hnl, plain_sub ypl fun c hc => List.mem_of_mem_take hc, ?_, ?_⟩ hwl⟩
  · show (y.take j).length ≤ 60
    rw [List.length_take]
    omega
  · show wd.length ≤ 1000000
    omega
def spLight : Sp := fun vs H Q _ => ∃ (p : Addr), vs = [.ref p] ∧ Spr H p ∧ ∀ H' a ks, Go p H H' → H a = none → HandL p H' a ks → (∀ k ∈ ks, k.ok) → hwt ks ≤ 30 → Q (.ref a) H'

theorem sd_sh (d : Sd Nat) : sdOf (shOf d) = d := by
  unfold sdOf shOf
  simp
theorem pressed_add (ks : List Ky) (m n : Nat) (s : Sh) : pressed ks n (pressed ks m s) = pressed ks (m + n) s := by
  unfold pressed
  rw [sd_sh, presses_add]
theorem pressed_app (as bs : List Ky) (s : Sh) : pressed bs 1 (pressed as 1 s) = pressed (as ++ bs) 1 s := by
  unfold pressed
  rw [sd_sh]
  show shOf (steps id bs (steps id as (sdOf s))) = shOf (steps id (as ++ bs) (sdOf s))
  rw [steps_app]
structure PlS (d : Sd Nat) : Prop where
  l : Plain d.l
  r : Plain d.r
  c : Plain d.c
theorem plain_app {x y : List Nat} (hx : Plain x) (hy : Plain y) : Plain (x ++ y) := by
  show (x ++ y).all _ = true
  rw [List.all_append, show x.all (alpha.contains ·) = true from hx, show y.all (alpha.contains ·) = true from hy]
  rfl
theorem plain_near {x : List Nat} (h : Plain x) (n : Nat) : Plain (near x n) := plain_sub h fun c hc => List.mem_of_mem_drop (List.mem_reverse.mp hc)
theorem plain_rest {x : List Nat} (h : Plain x) (n : Nat) : Plain (rest x n) := plain_sub h fun c hc => List.mem_of_mem_take hc
theorem step_pl : ∀ (k : Ky) (d : Sd Nat), k.ok → PlS d → PlS (step id k d)
  | .write w, d, hk, h => ⟨by show Plain (d.l ++ w.map id); rw [List.map_id]; exact plain_app h.l hk.2.2, h.r, h.c⟩
  | .paste, d, _, h => ⟨plain_app h.l h.c, h.r, h.c⟩
  | .left n, d, _, h => ⟨plain_rest h.l n, plain_app h.r (plain_near h.l n), h.c⟩
  | .right n, d, _, h => ⟨plain_app h.l (plain_near h.r n), plain_rest h.r n, h.c⟩
  | .strike n, d, _, h => ⟨h.l, plain_rest h.r n, h.c⟩
  | .rub n, d, _, h => ⟨plain_rest h.l n, h.r, h.c⟩
  | .copy n, d, _, h => ⟨h.l, h.r, plain_near h.r n⟩
  | .cut n, d, _, h => ⟨h.l, plain_rest h.r n, plain_near h.r n⟩
theorem steps_pl : ∀ (ks : List Ky) (d : Sd Nat), (∀ k ∈ ks, k.ok) → PlS d → PlS (steps id ks d)
  | [], _, _, h => h
  | k :: ks, d, hk, h => steps_pl ks _ (fun x hx => hk x (List.mem_cons_of_mem _ hx)) (step_pl k d (hk k (List.mem_cons_self ..)) h)
theorem presses_pl (ks : List Ky) (hk : ∀ k ∈ ks, k.ok) : ∀ (n : Nat) (d : Sd Nat), PlS d → PlS (presses id ks n d)
  | 0, _, h => h
  | n + 1, d, h => presses_pl ks hk n _ (steps_pl ks d hk h)
theorem sd_pl {s : Sh} (h : GoodS s) : PlS (sdOf s) := ⟨plain_sub h.w fun c hc => List.mem_of_mem_take hc, plain_sub h.w fun c hc => List.mem_of_mem_drop (List.mem_reverse.mp hc), h.k⟩
theorem pressed_good {ks : List Ky} {s : Sh} (gs : GoodS s) (gh : GoodH ks) (t : Nat) (hz : s.w.length + 3600 * t ≤ 1000000) : GoodS (pressed ks t s) ∧ (pressed ks t s).w.length ≤ s.w.length + 3600 * t := by
  obtain ⟨z0, c0⟩ := sdOf_size gs
  obtain ⟨p1, p2⟩ := presses_size id ks (fun k hk => Nat.le_trans (hwt_mem hk) gh.wt) gh.few t (sdOf s) c0
  have pl := presses_pl ks gh.ok t _ (sd_pl gs)
  rw [z0] at p1
  have hl : (pressed ks t s).w.length ≤ s.w.length + 3600 * t := by
    show ((presses id ks t (sdOf s)).l ++ (presses id ks t (sdOf s)).r.reverse).length ≤ _
    rw [List.length_append, List.length_reverse]
    exact p1
  refine ⟨⟨plain_app pl.l (plain_sub pl.r fun c hc => List.mem_reverse.mp hc), ?_, pl.c, p2, Nat.le_trans hl hz⟩, hl⟩
  show (presses id ks t (sdOf s)).l.length ≤ ((presses id ks t (sdOf s)).l ++ (presses id ks t (sdOf s)).r.reverse).length
  rw [List.length_append]
  omega
def Sh.dt (s : Sh) : PyData := .tuple [.str (tx s.w), .int s.n, .str (tx s.k)]
theorem strok_of {w : List Nat} (h : Plain w) : PyData.strOk (tx w) = true := by
  show (tx w).cps.all (· < 0x110000) = true
  rw [← Array.all_toList, tx_cps]
  exact List.all_eq_true.mpr fun c hc => decide_eq_true ((by decide +kernel : ∀ c ∈ alpha, c < 0x110000) c (by simpa using plain_mem h hc))
theorem sh_can {s : Sh} (h : GoodS s) : s.dt.canLay0 = true := by
  show (PyData.strOk (tx s.w) && (true && (PyData.strOk (tx s.k) && true))) = true
  rw [strok_of h.w, strok_of h.k]
  rfl
theorem sh_shaped {s : Sh} (h : GoodS s) : SeqAt.shaped s.dt = true := by
  show (s.dt.canLay0 && decide (s.dt.depth ≤ 64)) = true
  rw [sh_can h]
  rfl
theorem dp_sh {K : PySem.W.Frag} {H : Hp} {p : Addr} {s : Sh} (h : H p = some (.tup s.vs)) : Dp K H (.ref p) s.dt := .tup (SqT.of h) (.cons (.str _) (.cons (.int _) (.cons (.str _) .nil)))
theorem eqS {K : PySem.W.Frag} {H : Hp} {p q : Addr} {s : Sh} {Q : VK} (hg : GoodS s) (hp : H p = some (.tup s.vs)) (hq : H q = some (.tup s.vs)) (R : Q (.bl true) H) : rEqD K (.ref p) (.ref q) H Q :=
  ⟨s.dt, s.dt, dp_sh hp, dp_sh hq, sh_shaped hg, sh_shaped hg, by rw [PySem.SeqAt.eqv_refl s.dt (sh_can hg)]; exact R⟩
theorem neS {K : PySem.W.Frag} {H : Hp} {p q : Addr} {s : Sh} {Q : VK} (hg : GoodS s) (hp : H p = some (.tup s.vs)) (hq : H q = some (.tup s.vs)) (R : Q (.bl false) H) : rNeD K (.ref p) (.ref q) H Q :=
  ⟨s.dt, s.dt, dp_sh hp, dp_sh hq, sh_shaped hg, sh_shaped hg, by rw [PySem.SeqAt.eqv_refl s.dt (sh_can hg)]; exact R⟩
theorem pressed_goodG {ks : List Ky} {s : Sh} (gs : GoodS s) (gh : GoodH ks) (t : Nat) (hz : s.w.length + gains ks * t ≤ 1000000) : GoodS (pressed ks t s) ∧ (pressed ks t s).w.length ≤ s.w.length + gains ks * t := by
  obtain ⟨z0, c0⟩ := sdOf_size gs
  obtain ⟨p1, p2⟩ := presses_gain id ks (fun k hk => Nat.le_trans (hwt_mem hk) gh.wt) t (sdOf s) c0
  have pl := presses_pl ks gh.ok t _ (sd_pl gs)
  rw [z0] at p1
  have hl : (pressed ks t s).w.length ≤ s.w.length + gains ks * t := by
    show ((presses id ks t (sdOf s)).l ++ (presses id ks t (sdOf s)).r.reverse).length ≤ _
    rw [List.length_append, List.length_reverse]
    exact p1
  refine ⟨⟨plain_app pl.l (plain_sub pl.r fun c hc => List.mem_reverse.mp hc), ?_, pl.c, p2, Nat.le_trans hl hz⟩, hl⟩
  show (presses id ks t (sdOf s)).l.length ≤ ((presses id ks t (sdOf s)).l ++ (presses id ks t (sdOf s)).r.reverse).length
  rw [List.length_append]
  omega
/-- one key on a sheet, on plain letters -/
def keyed : Ky → Sh → Sh
  | .write x, s => ⟨s.w.take s.n ++ x ++ s.w.drop s.n, s.n + x.length, s.k⟩
  | .paste, s => ⟨s.w.take s.n ++ s.k ++ s.w.drop s.n, s.n + s.k.length, s.k⟩
  | .left m, s => ⟨s.w, s.n - min m s.n, s.k⟩
  | .right m, s => ⟨s.w, s.n + min m (s.w.length - s.n), s.k⟩
  | .rub m, s => ⟨(s.w.take s.n).take (s.n - min m s.n) ++ s.w.drop s.n, s.n - min m s.n, s.k⟩
  | .strike m, s => ⟨s.w.take s.n ++ (s.w.drop s.n).drop (min m (s.w.length - s.n)), s.n, s.k⟩
  | .copy m, s => ⟨s.w, s.n, (s.w.drop s.n).take (min m (s.w.length - s.n))⟩
  | .cut m, s => ⟨s.w.take s.n ++ (s.w.drop s.n).drop (min m (s.w.length - s.n)), s.n, (s.w.drop s.n).take (min m (s.w.length - s.n))⟩
theorem take_min (x : List Nat) (m : Nat) : x.take (min m x.length) = x.take m := by
  rcases Nat.le_total m x.length with h | h
  · rw [Nat.min_eq_left h]
  · rw [Nat.min_eq_right h, List.take_length, List.take_of_length_le h]
theorem drop_min (x : List Nat) (m : Nat) : x.drop (min m x.length) = x.drop m := by
  rcases Nat.le_total m x.length with h | h
  · rw [Nat.min_eq_left h]
  · rw [Nat.min_eq_right h, List.drop_length, List.drop_of_length_le h]
theorem near_rev (x : List Nat) (m : Nat) : near x.reverse m = x.take m := by
  unfold near
  rw [List.drop_reverse, List.reverse_reverse, List.length_reverse]
  rcases Nat.le_total m x.length with h | h
  · rw [show x.length - (x.length - m) = m by omega]
  · rw [show x.length - m = 0 by omega, Nat.sub_zero, List.take_length, List.take_of_length_le h]
theorem rest_rev (x : List Nat) (m : Nat) : (rest x.reverse m).reverse = x.drop m := by
  unfold rest
  rw [List.take_reverse, List.reverse_reverse, List.length_reverse]
  rcases Nat.le_total m x.length with h | h
  · rw [show x.length - (x.length - m) = m by omega]
  · rw [show x.length - m = 0 by omega, Nat.sub_zero, List.drop_length, List.drop_of_length_le h]
theorem rest_near (x : List Nat) (m : Nat) : rest x m ++ (near x m).reverse = x := by
  unfold rest near
  rw [List.reverse_reverse, List.take_append_drop]
theorem keyed_is (k : Ky) {s : Sh} (h : s.n ≤ s.w.length) : shOf (step id k (sdOf s)) = keyed k s := by
  have hl : (s.w.take s.n).length = s.n := by rw [List.length_take]; omega
  have hd : (s.w.drop s.n).length = s.w.length - s.n := by rw [List.length_drop]
  have e : ∀ {a b : Sh}, a.w = b.w → a.n = b.n → a.k = b.k → a = b := fun {a b} h1 h2 h3 => by cases a; cases b; simp at h1 h2 h3; rw [h1, h2, h3]
  have td := List.take_append_drop s.n s.w
  cases k with
  | write x => refine e ?_ ?_ rfl <;> simp [shOf, step, sdOf, keyed, hl]
  | paste => refine e ?_ ?_ rfl <;> simp [shOf, step, sdOf, keyed, hl]
  | left m =>
    refine e ?_ ?_ rfl
    · show rest (s.w.take s.n) m ++ ((s.w.drop s.n).reverse ++ near (s.w.take s.n) m).reverse = s.w
      rw [List.reverse_append, List.reverse_reverse, ← List.append_assoc, rest_near, td]
    · show (rest (s.w.take s.n) m).length = s.n - min m s.n
      rw [rest_len, hl]
      omega
  | right m =>
    refine e ?_ ?_ rfl
    · show (s.w.take s.n ++ near (s.w.drop s.n).reverse m) ++ (rest (s.w.drop s.n).reverse m).reverse = s.w
      rw [near_rev, rest_rev, List.append_assoc, List.take_append_drop, td]
    · show (s.w.take s.n ++ near (s.w.drop s.n).reverse m).length = s.n + min m (s.w.length - s.n)
      rw [near_rev, List.length_append, hl, List.length_take, hd]
  | rub m =>
    have er : rest (s.w.take s.n) m = (s.w.take s.n).take (s.n - min m s.n) := by
      unfold rest
      rw [hl]
      congr 1
      omega
    refine e ?_ ?_ rfl
    · show rest (s.w.take s.n) m ++ (s.w.drop s.n).reverse.reverse = _
      rw [List.reverse_reverse, er]
      rfl
    · show (rest (s.w.take s.n) m).length = s.n - min m s.n
      rw [rest_len, hl]
      omega
  | strike m =>
    refine e ?_ hl rfl
    show s.w.take s.n ++ (rest (s.w.drop s.n).reverse m).reverse = s.w.take s.n ++ _
    rw [rest_rev, ← hd, drop_min]
  | copy m =>
    refine e ?_ hl ?_
    · show s.w.take s.n ++ (s.w.drop s.n).reverse.reverse = s.w
      rw [List.reverse_reverse, td]
    · show near (s.w.drop s.n).reverse m = _
      rw [near_rev, ← take_min, hd]
      rfl
  | cut m =>
    refine e ?_ hl ?_
    · show s.w.take s.n ++ (rest (s.w.drop s.n).reverse m).reverse = s.w.take s.n ++ _
      rw [rest_rev, ← hd, drop_min]
    · show near (s.w.drop s.n).reverse m = _
      rw [near_rev, ← take_min, hd]
      rfl

def spKey (K : PySem.W.Frag) : Sp := fun vs H Q _ => ∃ (a : Addr) (kv : V) (k : Ky) (s : Sh), vs = [.ref a, kv] ∧ H a = some (.tup s.vs) ∧ KeyAt K H kv k ∧ k.ok ∧ k.wt ≤ 60 ∧ GoodS s ∧ s.w.length ≤ 999900 ∧
  ∀ p H', Same H H' → H' p = some (.tup (keyed k s).vs) → Q (.ref p) H'
theorem ok__law_key (T : Txt K mg w) : FnOk P w K mg base CX0 1 T.f__law_key.f T.f__law_key.fd ["sheet", "key"] (spKey K) := by
  refine T.f__law_key.F.ok sc__law_key (fun vs H Q E h => ?_) (fun cdv A outer s H vs Q E hr h => ?_)
  · obtain ⟨a, kv, k, s, rfl, _⟩ := h
    rfl
  obtain ⟨a, kv, k, s, rfl, ha, hk, hok, hwt, gs, hwl, q⟩ := h
  refine ⟨_, (pss_cons (ps_asg (pv 0) (pg_tup rfl (pgs_cons (pg_name (i := 2) sc__law_key.nd rfl (.inl rfl)) (pgs_cons (pg_name (i := 3) sc__law_key.nd rfl (.inl rfl)) (pgs_cons (pg_name (i := 4) sc__law_key.nd rfl (.inl rfl)) pgs_nil)))))
      (pss_cons (ps_par (i := 5) (j := 6) (by rfl) sc__law_key.nd rfl rfl (by decide) rfl rfl (pa_cons (pe_slice sl_str (pv 2) po_none (po_some (pv 3))) (pa_cons (pe_slice sl_str (pv 2) (po_some (pv 3)) po_none) pa_nil)) (by rfl))
      (pss_cons (ps_if (pt_cmpR op_eq (pe_ix ix_seq (pv 1) pe_int (fun _ _ => rfl)) pe_str (nomark _)) (pss_one (ps_ret (pe_tup (pa_cons (pe_op op_add_str (pe_op op_add_str (pv 5) (pe_ix ix_seq (pv 1) pe_int (fun _ _ => rfl))) (pv 6)) (pa_cons (pe_op op_add (pv 3) (pe_callB (call_lenK K) (by rfl) T.b_len (by decide +kernel) (pa_cons (pe_ix ix_seq (pv 1) pe_int (fun _ _ => rfl)) pa_nil))) (pa_cons (pv 4) pa_nil)))))) pss_nil)
      (pss_cons (ps_if (pt_cmpR op_eq (pe_ix ix_seq (pv 1) pe_int (fun _ _ => rfl)) pe_str (nomark _)) (pss_one (ps_ret (pe_tup (pa_cons (pe_op op_add_str (pe_op op_add_str (pv 5) (pv 4)) (pv 6)) (pa_cons (pe_op op_add (pv 3) (pe_callB (call_lenK K) (by rfl) T.b_len (by decide +kernel) (pa_cons (pv 4) pa_nil))) (pa_cons (pv 4) pa_nil)))))) pss_nil)
      (pss_cons (ps_set (i := 7) sc__law_key.nd rfl (.inl rfl) (pe_callB (call_min2 rfl) (by rfl) T.b_min (by decide +kernel) (pa_cons (pe_ix ix_seq (pv 1) pe_int (fun _ _ => rfl)) (pa_cons (pe_ifExp (pt_cmpR op_in_seq (pe_ix ix_seq (pv 1) pe_int (fun _ _ => rfl)) (pe_lst (pa_cons pe_str (pa_cons pe_str pa_nil))) (by rfl)) (pv 3) (pe_callB (call_lenK K) (by rfl) T.b_len (by decide +kernel) (pa_cons (pv 6) pa_nil))) pa_nil))))
      (pss_cons (ps_if (pt_cmpR op_in_seq (pe_ix ix_seq (pv 1) pe_int (fun _ _ => rfl)) (pe_lst (pa_cons pe_str (pa_cons pe_str pa_nil))) (by rfl)) (pss_one (ps_ret (pe_tup (pa_cons (pv 2) (pa_cons (pe_op op_add (pv 3) (pe_ix ix_seq (pe_lst (pa_cons (pv 7) (pa_cons (pe_op op_sub pe_int (pv 7)) pa_nil))) (pe_callTy call_int1 (by rfl) T.b_int (by decide +kernel) (pa_cons (pe_cmpR op_eq (pe_ix ix_seq (pv 1) pe_int (fun _ _ => rfl)) pe_str (nomark _)) pa_nil)) (fun _ _ => rfl))) (pa_cons (pv 4) pa_nil)))))) pss_nil)
      (pss_cons (ps_if (pt_cmpR op_eq (pe_ix ix_seq (pv 1) pe_int (fun _ _ => rfl)) pe_str (nomark _)) (pss_one (ps_ret (pe_tup (pa_cons (pe_op op_add_str (pe_slice sl_str (pv 5) po_none (po_some (pe_op op_sub (pv 3) (pv 7)))) (pv 6)) (pa_cons (pe_op op_sub (pv 3) (pv 7)) (pa_cons (pv 4) pa_nil)))))) pss_nil)
      (pss_cons (ps_if (pt_cmpR op_eq (pe_ix ix_seq (pv 1) pe_int (fun _ _ => rfl)) pe_str (nomark _)) (pss_one (ps_ret (pe_tup (pa_cons (pe_op op_add_str (pv 5) (pe_slice sl_str (pv 6) (po_some (pv 7)) po_none)) (pa_cons (pv 3) (pa_cons (pv 4) pa_nil)))))) pss_nil)
      (pss_one (ps_ret (pe_tup (pa_cons (pe_ifExp (pt_cmpR op_eq (pe_ix ix_seq (pv 1) pe_int (fun _ _ => rfl)) pe_str (nomark _)) (pv 2) (pe_op op_add_str (pv 5) (pe_slice sl_str (pv 6) (po_some (pv 7)) po_none))) (pa_cons (pv 3) (pa_cons (pe_slice sl_str (pv 6) po_none (po_some (pv 7))) pa_nil)))))))))))))), ?_⟩
  obtain ⟨ka, rfl, hrow⟩ := hk
  walk_at "rd"
  have hn := gs.n
  have hkl := gs.kl
  have big : ∀ {m : Nat}, m ≤ 1000000 → m ≤ sizeLine := fun h => Nat.le_trans h (by decide)
  refine ⟨_, rfl, _, _, rfl, SqT.of ha, rfl, _, _, rfl, _, _, rfl, _, _, rfl, rfl, ?_⟩
  refine ⟨_, rfl, _, rfl, _, rfl, tx s.w, rfl, by rw [tx_len]; exact big gs.wl, ?_⟩
  rw [cut__n]
  refine ⟨_, rfl, _, rfl, _, rfl, tx s.w, rfl, by rw [tx_len]; exact big gs.wl, ?_⟩
  rw [cut_n_]
  have tsz : ∀ x : List Nat, x.length ≤ 1000000 → (tx x).length ≤ sizeLine := fun x h => by rw [tx_len]; exact big h
  have hwl := gs.wl
  have hlt : (s.w.take s.n).length = s.n := by rw [List.length_take]; omega
  have hld : (s.w.drop s.n).length = s.w.length - s.n := List.length_drop
  cases k with
  | write x =>
    have hx : x.length ≤ 60 := hok.2.1
    refine ⟨_, _, rfl, _, rfl, ix_row hrow (at_ofA (j := 0) rfl rfl) ⟨rfl, st_yes ⟨_, rfl, _, rfl, ix_row hrow (at_ofA (j := 1) rfl rfl) ⟨_, _, rfl, rfl, ?_, _, rfl, _, _, rfl, rfl, ?_, ?_⟩⟩⟩⟩
    · rw [tx_len, tx_len, hlt]; exact big (by omega)
    · rw [tx_app, tx_len, tx_len, List.length_append, hlt, hld]; exact big (by omega)
    refine ⟨_, rfl, _, rfl, ix_row hrow (at_ofA (j := 1) rfl rfl) (len_tx (by omega) ⟨_, _, rfl, rfl, _, rfl, by show 3 ≤ sizeLine; decide, fun p np => q p _ (same_upd np) ?_⟩)⟩
    rw [upd_same, tx_app, tx_app]
    rfl
  | paste =>
    refine ⟨_, _, rfl, _, rfl, ix_row hrow (at_ofA (j := 0) rfl rfl) ⟨rfl, st_no (by decide) ⟨_, rfl, ix_row hrow (at_ofA (j := 0) rfl rfl) ⟨rfl, st_yes ⟨_, rfl, _, rfl, _, _, rfl, rfl, ?_, _, rfl, _, _, rfl, rfl, ?_, ?_⟩⟩⟩⟩⟩
    · rw [tx_len, tx_len, hlt]; exact big (by omega)
    · rw [tx_app, tx_len, tx_len, List.length_append, hlt, hld]; exact big (by omega)
    refine ⟨_, rfl, _, rfl, len_tx (by omega) ⟨_, _, rfl, rfl, _, rfl, by show 3 ≤ sizeLine; decide, fun p np => q p _ (same_upd np) ?_⟩⟩
    rw [upd_same, tx_app, tx_app]
    rfl
  | left m | rub m =>
    refine ⟨_, _, rfl, _, rfl, ix_row hrow (at_ofA (j := 0) rfl rfl) ⟨rfl, st_no (by decide) ⟨_, rfl, ix_row hrow (at_ofA (j := 0) rfl rfl) ⟨rfl, st_no (by decide) ?_⟩⟩⟩⟩
    refine ⟨_, rfl, ix_row hrow (at_ofA (j := 1) rfl rfl) ⟨_, rfl, ix_row hrow (at_ofA (j := 0) rfl rfl) ⟨by show 2 ≤ sizeLine; decide, fun t nt => ⟨t, _, rfl, .inl (SqL.of upd_same), rfl, rfl, _, rfl, ?_⟩⟩⟩⟩
    refine iteY (by decide) ⟨_, rfl, _, _, rfl, ?_⟩
    rw [show (if ((s.n : Nat) : Int) < ((m : Nat) : Int) then ((s.n : Nat) : Int) else ((m : Nat) : Int)) = ((min m s.n : Nat) : Int) by split <;> omega]
    have s1 := same_upd (o := .lst [V.str "left", V.str "rub"]) nt
    have hrow1 := hrow.same s1
    generalize upd H t (.lst [V.str "left", V.str "rub"]) = H1 at *
    refine ⟨_, rfl, ix_row hrow1 (at_ofA (j := 0) rfl rfl) ⟨by show 2 ≤ sizeLine; decide, fun t2 nt2 => ⟨t2, _, rfl, .inl (SqL.of upd_same), rfl, rfl, _, rfl, ?_⟩⟩⟩
    have s2 := s1.trans (same_upd (o := .lst [V.str "left", V.str "right"]) nt2)
    have hrow2 := hrow1.same (same_upd (o := .lst [V.str "left", V.str "right"]) nt2)
    generalize upd H1 t2 (.lst [V.str "left", V.str "right"]) = H2 at *
    first
    | (refine iteY (by decide) ?_
       refine ⟨_, rfl, _, rfl, _, rfl, _, rfl, _, _, rfl, rfl, by show 2 ≤ sizeLine; decide, fun t3 nt3 => ?_⟩
       have s3 := s2.trans (same_upd (o := .lst [V.int ((min m s.n : Nat) : Int), V.int (0 - ((min m s.n : Nat) : Int))]) nt3)
       have hrow3 := hrow2.same (same_upd (o := .lst [V.int ((min m s.n : Nat) : Int), V.int (0 - ((min m s.n : Nat) : Int))]) nt3)
       have k3 := upd_same (H := H2) (a := t3) (o := .lst [V.int ((min m s.n : Nat) : Int), V.int (0 - ((min m s.n : Nat) : Int))])
       generalize upd H2 t3 (.lst [V.int ((min m s.n : Nat) : Int), V.int (0 - ((min m s.n : Nat) : Int))]) = H3 at *
       refine ⟨_, rfl, ix_row hrow3 (at_ofA (j := 0) rfl rfl) ⟨rfl, .inr ⟨_, rfl, ix_lst k3 (at_ofA (j := 1) (by decide) rfl) ⟨_, _, rfl, rfl, _, rfl, by show 3 ≤ sizeLine; decide, fun p np => q p _ (s3.trans (same_upd np)) ?_⟩⟩⟩⟩
       rw [upd_same]
       show some (HO.tup [V.str (tx s.w), V.int ((s.n : Int) + (0 - ((min m s.n : Nat) : Int))), V.str (tx s.k)]) = some (HO.tup [V.str (tx s.w), V.int ((s.n - min m s.n : Nat) : Int), V.str (tx s.k)])
       rw [show ((s.n : Int) + (0 - ((min m s.n : Nat) : Int)) : Int) = ((s.n - min m s.n : Nat) : Int) by omega])
    | (refine iteN (by decide) ?_
       refine ⟨_, rfl, ix_row hrow2 (at_ofA (j := 0) rfl rfl) ⟨rfl, _, rfl, iteY (by decide) ?_⟩⟩
       refine ⟨_, rfl, _, rfl, _, rfl, _, _, rfl, rfl, _, rfl, tx (s.w.take s.n), rfl, tsz _ (by omega), ?_⟩
       rw [show (s.n : Int) - ((min m s.n : Nat) : Int) = ((s.n - min m s.n : Nat) : Int) by omega, cut__n]
       refine ⟨_, rfl, _, _, rfl, rfl, ?_, ?_⟩
       · rw [tx_len, tx_len, List.length_take, hlt, hld]; exact big (by omega)
       refine ⟨_, rfl, _, rfl, _, _, rfl, rfl, _, rfl, by show 3 ≤ sizeLine; decide, fun p np => q p _ (s2.trans (same_upd np)) ?_⟩
       rw [upd_same, tx_app]
       show some (HO.tup [_, V.int ((s.n : Int) - ((min m s.n : Nat) : Int)), _]) = some (HO.tup [_, V.int ((s.n - min m s.n : Nat) : Int), _])
       rw [show (s.n : Int) - ((min m s.n : Nat) : Int) = ((s.n - min m s.n : Nat) : Int) by omega]
       rfl)
  | right m | strike m | copy m | cut m =>
    refine ⟨_, _, rfl, _, rfl, ix_row hrow (at_ofA (j := 0) rfl rfl) ⟨rfl, st_no (by decide) ⟨_, rfl, ix_row hrow (at_ofA (j := 0) rfl rfl) ⟨rfl, st_no (by decide) ?_⟩⟩⟩⟩
    refine ⟨_, rfl, ix_row hrow (at_ofA (j := 1) rfl rfl) ⟨_, rfl, ix_row hrow (at_ofA (j := 0) rfl rfl) ⟨by show 2 ≤ sizeLine; decide, fun t nt => ⟨t, _, rfl, .inl (SqL.of upd_same), rfl, rfl, _, rfl, ?_⟩⟩⟩⟩
    refine iteN (by decide) ⟨_, rfl, len_tx (by omega) ⟨_, _, rfl, ?_⟩⟩
    rw [hld, show (if ((s.w.length - s.n : Nat) : Int) < ((m : Nat) : Int) then ((s.w.length - s.n : Nat) : Int) else ((m : Nat) : Int)) = ((min m (s.w.length - s.n) : Nat) : Int) by split <;> omega]
    have s1 := same_upd (o := .lst [V.str "left", V.str "rub"]) nt
    have hrow1 := hrow.same s1
    generalize upd H t (.lst [V.str "left", V.str "rub"]) = H1 at *
    refine ⟨_, rfl, ix_row hrow1 (at_ofA (j := 0) rfl rfl) ⟨by show 2 ≤ sizeLine; decide, fun t2 nt2 => ⟨t2, _, rfl, .inl (SqL.of upd_same), rfl, rfl, _, rfl, ?_⟩⟩⟩
    have s2 := s1.trans (same_upd (o := .lst [V.str "left", V.str "right"]) nt2)
    have hrow2 := hrow1.same (same_upd (o := .lst [V.str "left", V.str "right"]) nt2)
    generalize upd H1 t2 (.lst [V.str "left", V.str "right"]) = H2 at *
    first
    | (refine iteY (by decide) ?_
       refine ⟨_, rfl, _, rfl, _, rfl, _, rfl, _, _, rfl, rfl, by show 2 ≤ sizeLine; decide, fun t3 nt3 => ?_⟩
       have s3 := s2.trans (same_upd (o := .lst [V.int ((min m (s.w.length - s.n) : Nat) : Int), V.int (0 - ((min m (s.w.length - s.n) : Nat) : Int))]) nt3)
       have hrow3 := hrow2.same (same_upd (o := .lst [V.int ((min m (s.w.length - s.n) : Nat) : Int), V.int (0 - ((min m (s.w.length - s.n) : Nat) : Int))]) nt3)
       have k3 := upd_same (H := H2) (a := t3) (o := .lst [V.int ((min m (s.w.length - s.n) : Nat) : Int), V.int (0 - ((min m (s.w.length - s.n) : Nat) : Int))])
       generalize upd H2 t3 (.lst [V.int ((min m (s.w.length - s.n) : Nat) : Int), V.int (0 - ((min m (s.w.length - s.n) : Nat) : Int))]) = H3 at *
       refine ⟨_, rfl, ix_row hrow3 (at_ofA (j := 0) rfl rfl) ⟨rfl, .inr ⟨_, rfl, ix_lst k3 (at_ofA (j := 0) (by decide) rfl) ⟨_, _, rfl, rfl, _, rfl, by show 3 ≤ sizeLine; decide, fun p np => q p _ (s3.trans (same_upd np)) ?_⟩⟩⟩⟩
       rw [upd_same]
       show some (HO.tup [V.str (tx s.w), V.int ((s.n : Int) + ((min m (s.w.length - s.n) : Nat) : Int)), V.str (tx s.k)]) = some (HO.tup [V.str (tx s.w), V.int ((s.n + min m (s.w.length - s.n) : Nat) : Int), V.str (tx s.k)])
       rw [show ((s.n : Int) + ((min m (s.w.length - s.n) : Nat) : Int) : Int) = ((s.n + min m (s.w.length - s.n) : Nat) : Int) by omega])
    | (refine iteN (by decide) ?_
       refine ⟨_, rfl, ix_row hrow2 (at_ofA (j := 0) rfl rfl) ⟨rfl, _, rfl, iteN (by decide) ?_⟩⟩
       refine ⟨_, rfl, ix_row hrow2 (at_ofA (j := 0) rfl rfl) ⟨rfl, _, rfl, iteY (by decide) ?_⟩⟩
       refine ⟨_, rfl, _, rfl, _, rfl, _, rfl, tx (s.w.drop s.n), rfl, tsz _ (by omega), ?_⟩
       rw [cut_n_]
       refine ⟨_, _, rfl, rfl, ?_, ?_⟩
       · rw [tx_len, tx_len, List.length_drop, hlt, hld]; exact big (by omega)
       refine ⟨_, rfl, _, rfl, by show 3 ≤ sizeLine; decide, fun p np => q p _ (s2.trans (same_upd np)) ?_⟩
       rw [upd_same, tx_app]
       rfl)
    | (refine iteN (by decide) ?_
       refine ⟨_, rfl, ix_row hrow2 (at_ofA (j := 0) rfl rfl) ⟨rfl, _, rfl, iteN (by decide) ?_⟩⟩
       refine ⟨_, rfl, ix_row hrow2 (at_ofA (j := 0) rfl rfl) ⟨rfl, _, rfl, iteN (by decide) ?_⟩⟩
       refine ⟨_, rfl, ix_row hrow2 (at_ofA (j := 0) rfl rfl) ⟨rfl, _, rfl, iteY (by decide) ?_⟩⟩
       refine ⟨_, rfl, _, rfl, _, rfl, _, rfl, _, rfl, tx (s.w.drop s.n), rfl, tsz _ (by omega), ?_⟩
       rw [cut__n]
       refine ⟨by show 3 ≤ sizeLine; decide, fun p np => q p _ (s2.trans (same_upd np)) ?_⟩
       rw [upd_same]
       rfl)
    | (refine iteN (by decide) ?_
       refine ⟨_, rfl, ix_row hrow2 (at_ofA (j := 0) rfl rfl) ⟨rfl, _, rfl, iteN (by decide) ?_⟩⟩
       refine ⟨_, rfl, ix_row hrow2 (at_ofA (j := 0) rfl rfl) ⟨rfl, _, rfl, iteN (by decide) ?_⟩⟩
       refine ⟨_, rfl, ix_row hrow2 (at_ofA (j := 0) rfl rfl) ⟨rfl, _, rfl, iteN (by decide) ?_⟩⟩
       refine ⟨_, rfl, _, rfl, _, rfl, _, rfl, tx (s.w.drop s.n), rfl, tsz _ (by omega), ?_⟩
       rw [cut_n_]
       refine ⟨_, _, rfl, rfl, ?_, ?_⟩
       · rw [tx_len, tx_len, List.length_drop, hlt, hld]; exact big (by omega)
       refine ⟨_, rfl, _, rfl, _, rfl, _, rfl, tx (s.w.drop s.n), rfl, tsz _ (by omega), ?_⟩
       rw [cut__n]
       refine ⟨by show 3 ≤ sizeLine; decide, fun p np => q p _ (s2.trans (same_upd np)) ?_⟩
       rw [upd_same, tx_app]
       rfl)
theorem sh_sd {s : Sh} (h : s.n ≤ s.w.length) : shOf (sdOf s) = s := by
  unfold shOf sdOf
  simp only [List.reverse_reverse, List.take_append_drop, List.length_take, Nat.min_eq_left h]
theorem goodD {d : Sd Nat} (hp : PlS d) (hc : d.c.length ≤ 60) (hz : d.size ≤ 999900) : GoodS (shOf d) ∧ (shOf d).w.length = d.size := by
  have hl : (shOf d).w.length = d.size := by
    show (d.l ++ d.r.reverse).length = _
    rw [List.length_append, List.length_reverse]
    rfl
  refine ⟨⟨plain_app hp.l (plain_sub hp.r fun c hc => List.mem_reverse.mp hc), ?_, hp.c, hc, by omega⟩, hl⟩
  rw [hl]
  show d.l.length ≤ d.l.length + d.r.length
  omega
theorem gains_take (ks : List Ky) (j : Nat) : gains (ks.take j) ≤ gains ks := by
  have h : gains ks = gains (ks.take j) + gains (ks.drop j) := by
    conv => lhs; rw [← List.take_append_drop j ks]
    unfold gains
    rw [List.map_append, List.sum_append]
  omega
def spPressed (K : PySem.W.Frag) : Sp := fun vs H Q _ => ∃ (a : Addr) (hv : V) (s : Sh) (ks : List Ky) (t : Nat), vs = [.ref a, hv, .int t] ∧ H a = some (.tup s.vs) ∧ HandAt K H hv ks ∧ GoodS s ∧ GoodH ks ∧ t ≤ 300 ∧ s.w.length + gains ks * t ≤ 999900 ∧
  ∀ p H', Same H H' → H' p = some (.tup (pressed ks t s).vs) → Q (.ref p) H'
theorem ok__law_pressed (T : Txt K mg w) : FnOk P w K mg base CX0 2 T.f__law_pressed.f T.f__law_pressed.fd ["sheet", "hand", "often_so"] (spPressed K) := by
  refine T.f__law_pressed.F.ok sc__law_pressed (fun vs H Q E h => ?_) (fun cdv A outer s H vs Q E hr h => ?_)
  · obtain ⟨a, hv, s, ks, t, rfl, _⟩ := h
    rfl
  obtain ⟨a, hv, s, ks, t, rfl, ha, hh, gs, gh, ht, hz, q⟩ := h
  refine ⟨_, (pss_cons (ps_for PassesOwn.never rfl (pi_range1 (by rfl) T.b_range (pa_cons (pv 2) pa_nil)) (pg_name (i := 3) sc__law_pressed.nd rfl (.inl rfl))
        (pss_one (ps_for PassesOwn.never rfl (pi_seq (pv 1)) (pg_name (i := 4) sc__law_pressed.nd rfl (.inl rfl))
        (pss_one (ps_set (i := 0) sc__law_pressed.nd rfl (.inl rfl) (pe_call (ok__law_key T) (hr.mono (by decide)) (by rfl) T.f__law_key.g T.f__law_key.F.kp T.f__law_key.b .nil pass0 (pa_cons (pv 0) (pa_cons (pv 4) pa_nil))))))))
      (pss_one (ps_ret (pv 0)))), ?_⟩
  walk_at "rd"
  obtain ⟨ah, xs, rfl, hrowH, hp⟩ := hh
  have hxl : xs.length = ks.length := prd_len hp
  obtain ⟨sz0, cz0⟩ := sdOf_size gs
  have kw : ∀ k ∈ ks, k.wt ≤ 60 := fun k hk => Nat.le_trans (hwt_mem hk) gh.wt
  refine fr_rng1 ⟨_, rfl, _, rfl, by omega, by omega, ?_⟩
  refine ForGo.range (fun i σ H' => ∃ c x y, σ = [some (.ref c), some (.ref ah), some (.int t), x, y] ∧ Same H H' ∧ H' c = some (.tup (shOf (presses id ks i (sdOf s))).vs))
    ⟨a, none, none, rfl, Same.refl _, by show H a = some (.tup (shOf (sdOf s)).vs); rw [sh_sd gs.n]; exact ha⟩ ?_ ?_
  · rintro i σ H6 hi ⟨c1, x, y, rfl, s6, hc1⟩
    have hi : i < t := hi
    walk_at "rd"
    refine for_row (K := K) (a := ah) (xs := xs) rfl hrowH s6 (fun j σ H' => ∃ c' y, σ = [some (.ref c'), some (.ref ah), some (.int t), some (.int (0 + i)), y] ∧ Same H H' ∧ H' c' = some (.tup (shOf (steps id (ks.take j) (presses id ks i (sdOf s)))).vs))
      ⟨c1, y, rfl, s6, hc1⟩ (fun j σ H' _ ⟨_, _, _, s7, _⟩ => s7) ?_ ?_
    · rintro j x σ H7 hx ⟨c2, y, rfl, s7, hc2⟩
      obtain ⟨k, hk, r⟩ := prd_at hp hx
      obtain ⟨p1, p2⟩ := presses_gain id ks kw i (sdOf s) cz0
      obtain ⟨p3, p4⟩ := steps_gain id (ks.take j) (presses id ks i (sdOf s)) (fun k hk => kw k (List.mem_of_mem_take hk)) p2
      have pl := steps_pl (ks.take j) _ (fun k hk => gh.ok k (List.mem_of_mem_take hk)) (presses_pl ks gh.ok i _ (sd_pl gs))
      have gt := gains_take ks j
      have hgi : gains ks * i + gains ks ≤ gains ks * t := by rw [← Nat.mul_succ]; exact Nat.mul_le_mul_left _ hi
      rw [sz0] at p1
      obtain ⟨g1, g2⟩ := goodD pl p4 (by omega)
      have hkm := List.mem_of_getElem? hk
      walk_at "rd"
      refine ⟨_, rfl, _, rfl, c2, x, k, _, rfl, hc2, r.same s7, gh.ok k hkm, kw k hkm, g1, by rw [g2]; omega, fun p H8 s8 hp8 => ?_⟩
      refine ⟨p, some x, rfl, s7.trans s8, ?_⟩
      have e4 : ks.take (j + 1) = ks.take j ++ [k] := by rw [List.take_add_one, hk]; rfl
      rw [e4, steps_app, steps_cons]
      rw [← keyed_is k g1.n, sd_sh] at hp8
      exact hp8
    · rintro σ H7 ⟨c2, y, rfl, s7, hc2⟩
      refine ⟨c2, _, y, rfl, s7, ?_⟩
      rw [presses_succ]
      rw [hxl, List.take_length] at hc2
      exact hc2
  · rintro σ H6 ⟨c1, x, y, rfl, s6, hc1⟩
    walk_at "rd"
    exact ⟨_, rfl, q _ _ s6 hc1⟩
def spHeavy (K : PySem.W.Frag) : Sp := fun vs H Q _ => ∃ (hv : V) (ks : List Ky), vs = [hv] ∧ HandAt K H hv ks ∧ (∀ k ∈ ks, k.ok) ∧ ks.length ≤ 1000 ∧ hwt ks ≤ 100000 ∧ ∀ H', Same H H' → Q (.int (hwt ks)) H'
theorem ok__law_heavy (T : Txt K mg w) : FnOk P w K mg base CX0 1 T.f__law_heavy.f T.f__law_heavy.fd ["hand"] (spHeavy K) := by
  refine T.f__law_heavy.F.ok sc__law_heavy (fun vs H Q E h => ?_) (fun cdv A outer s H vs Q E hr h => ?_)
  · obtain ⟨hv, ks, rfl, _⟩ := h
    rfl
  obtain ⟨hv, ks, rfl, hh, hok, hl, hw, q⟩ := h
  refine ⟨_, (pss_one (ps_ret (pe_callB (cr_sum rfl) (by rfl) T.b_sum (by decide +kernel) (pa_cons (pe_lc (own := [("key", 1)]) rfl sc__law_heavy.nd (pi_seq (pv 0)) (blkOk_by (own := [("key", 1)]) (N := N__law_heavy) (sc := defScope s__law_heavy) (by decide +kernel)) (fun _ _ _ _ _ => (pg_name (i := 1) sc__law_heavy.nd rfl (.inl rfl))) (fun _ _ _ _ _ => pts_nil) (fun _ _ _ _ _ => (pe_ifExp (pt_cmpR op_eq (pe_callB (call_lenK K) (by rfl) T.b_len (by decide +kernel) (pa_cons (pv 1) pa_nil)) pe_int (nomark _)) pe_int (pe_ifExp (pt_cmpR op_eq (pe_ix (ix_seqK K) (pv 1) pe_int (fun _ _ => rfl)) pe_str (nomark _)) (pe_callB (call_lenK K) (by rfl) T.b_len (by decide +kernel) (pa_cons (pe_ix (ix_seqK K) (pv 1) pe_int (fun _ _ => rfl)) pa_nil)) (pe_ix (ix_seqK K) (pv 1) pe_int (fun _ _ => rfl)))))) pa_nil)))), ?_⟩
  obtain ⟨ah, xs, rfl, hrowH, hp⟩ := hh
  walk_at "rd"
  have hlen : xs.length = ks.length := prd_len hp
  refine lc_rowN (a := ah) (xs := xs) (ys := (ks.map fun k => (k.wt : Int)).map V.int) rfl hrowH (by rw [List.length_map, List.length_map]; exact hlen) ?_ (fun _ => rfl) (fun _ _ _ h => h) (fun i x y H' hx hy s1 R hR => ?_) (fun D H' s1 nD hD => ?_)
  · rw [List.length_map, List.length_map]
    exact Nat.lt_of_le_of_lt hl (by decide)
  · obtain ⟨k, hk, r⟩ := prd_at hp hx
    rw [List.getElem?_map, List.getElem?_map, hk] at hy
    have hy := Option.some.inj hy
    subst hy
    obtain ⟨b, rfl, hrow⟩ := r.same s1
    have hkk := hok k (List.mem_of_getElem? hk)
    have hR := hR _ (Same.refl _)
    walk_at "rd"
    refine ⟨_, rfl, len_row hrow ?_⟩
    cases k with
    | paste => exact ⟨rfl, _, rfl, iteY (by decide) hR⟩
    | write w =>
      refine ⟨rfl, _, rfl, iteN (by simp [Ky.vs]) ⟨_, rfl, ix_row hrow (at_ofA (j := 0) rfl rfl) ⟨rfl, _, rfl, iteY (by decide) ⟨_, rfl, ix_row hrow (at_ofA (j := 1) rfl rfl) (len_tx (Nat.le_trans hkk.2.1 (by decide)) hR)⟩⟩⟩⟩
    | left n | right n | strike n | rub n | copy n | cut n =>
      exact ⟨rfl, _, rfl, iteN (by simp [Ky.vs]) ⟨_, rfl, ix_row hrow (at_ofA (j := 0) rfl rfl) ⟨rfl, _, rfl, iteN (by decide) ⟨_, rfl, ix_row hrow (at_ofA (j := 1) rfl rfl) hR⟩⟩⟩⟩
  · refine ⟨D, _, rfl, SqL.of hD, ?_⟩
    rw [hwt_sum]
    exact q _ s1

theorem norm_leaf {d : Dt} (h : isRow d = false) : norm d = d := by cases d <;> first | rfl | cases h
theorem leaf_norm {d e : Dt} (h : norm e = d) (hd : isRow d = false) : e = d := by
  have : isRow e = false := by rw [← row_norm, h, hd]
  rw [← h, norm_leaf this]
theorem kD_leaf (k : Ky) : ∀ d ∈ kD k, isRow d = false := by
  intro d hd
  cases k <;> simp only [kD, List.mem_cons, List.not_mem_nil, or_false] at hd
  case paste => subst hd; rfl
  all_goals (rcases hd with rfl | rfl <;> rfl)
theorem ats_leaf {K : PySem.W.Frag} {H : Hp} : ∀ {es ds : List Dt} {xs : List V}, Ats K H xs es → es.map norm = ds → (∀ d ∈ ds, isRow d = false) → Ats K H xs ds
  | [], ds, xs, h, e, _ => by rw [← e]; exact h
  | c :: es, ds, xs, h, e, hl => by
    subst e
    rw [List.map_cons] at hl ⊢
    unfold Ats at h ⊢
    obtain ⟨v, us, rfl, h1, h2⟩ := h
    refine ⟨v, us, rfl, ?_, ats_leaf h2 rfl fun d hd => hl d (List.mem_cons_of_mem _ hd)⟩
    rw [← leaf_norm (e := c) rfl (hl _ (List.mem_cons_self ..))]
    exact h1
theorem at_nm {K : PySem.W.Frag} {H : Hp} {v : V} (z : Str) (h : At K H v (.str (nm z))) : v = .str z := by
  unfold At at h
  rw [h.1]
  unfold nm
  rw [tx_of]
theorem ats_vs {K : PySem.W.Frag} {H : Hp} {xs : List V} (k : Ky) (h : Ats K H xs (kD k)) : xs = k.vs := by
  have two : ∀ {z : Str} {d : Dt}, Ats K H xs [.str (nm z), d] → ∃ v, xs = [.str z, v] ∧ At K H v d := fun h => by
    unfold Ats at h
    obtain ⟨v, us, rfl, h1, h2⟩ := h
    unfold Ats at h2
    obtain ⟨u, us, rfl, h3, h4⟩ := h2
    unfold Ats at h4
    subst h4
    exact ⟨u, by rw [at_nm _ h1], h3⟩
  cases k with
  | paste =>
    have h : Ats K H xs [.str (nm "paste")] := h
    unfold Ats at h
    obtain ⟨v, us, rfl, h1, h2⟩ := h
    unfold Ats at h2
    subst h2
    rw [at_nm _ h1]
    rfl
  | write w => obtain ⟨v, rfl, h3⟩ := two (z := "write") h; unfold At at h3; rw [h3.1]; rfl
  | left n => obtain ⟨v, rfl, h3⟩ := two (z := "left") h; unfold At at h3; rw [h3]; rfl
  | right n => obtain ⟨v, rfl, h3⟩ := two (z := "right") h; unfold At at h3; rw [h3]; rfl
  | strike n => obtain ⟨v, rfl, h3⟩ := two (z := "strike") h; unfold At at h3; rw [h3]; rfl
  | rub n => obtain ⟨v, rfl, h3⟩ := two (z := "rub") h; unfold At at h3; rw [h3]; rfl
  | copy n => obtain ⟨v, rfl, h3⟩ := two (z := "copy") h; unfold At at h3; rw [h3]; rfl
  | cut n => obtain ⟨v, rfl, h3⟩ := two (z := "cut") h; unfold At at h3; rw [h3]; rfl
/-- a hand as a thing -/
def dH (ks : List Ky) : Dt := .lst (ks.map fun k => .tup (kD k))
theorem norm_lst (ds : List Dt) : norm (.lst ds) = .lst (ds.map norm) := by simp only [norm, normAll_map]
theorem norm_tup (ds : List Dt) : norm (.tup ds) = .lst (ds.map norm) := by simp only [norm, normAll_map]
theorem keyAt_of {K : PySem.W.Frag} {H : Hp} {v : V} {k : Ky} {e : Dt} (h : At K H v e) (hn : norm e = norm (.tup (kD k))) : KeyAt K H v k := by
  have hr : isRow e = true := by rw [← row_norm, hn, row_norm]; rfl
  obtain ⟨a, xs, rfl, hrow, hx⟩ := at_row h hr
  have hi : e.items.map norm = kD k := by
    rw [← items_norm, hn, items_norm]
    show (kD k).map norm = kD k
    have : ∀ ds : List Dt, (∀ d ∈ ds, isRow d = false) → ds.map norm = ds := fun ds => by
      induction ds with
      | nil => intro _; rfl
      | cons c ds ih => intro h; rw [List.map_cons, norm_leaf (h c (List.mem_cons_self ..)), ih fun d hd => h d (List.mem_cons_of_mem _ hd)]
    exact this _ (kD_leaf k)
  have := ats_vs k (ats_leaf hx hi (kD_leaf k))
  subst this
  exact ⟨a, rfl, hrow⟩
theorem keysAt_of {K : PySem.W.Frag} {H : Hp} : ∀ {es : List Dt} {ks : List Ky} {xs : List V}, Ats K H xs es → es.map norm = (ks.map fun k => norm (.tup (kD k))) → Paired (KeyAt K H) xs ks
  | [], [], xs, h, _ => by unfold Ats at h; subst h; exact .nil
  | [], _ :: _, _, _, e => by cases e
  | _ :: _, [], _, _, e => by cases e
  | e :: es, k :: ks, xs, h, hn => by
    unfold Ats at h
    obtain ⟨v, us, rfl, h1, h2⟩ := h
    rw [List.map_cons, List.map_cons] at hn
    injection hn with n1 n2
    exact .cons (keyAt_of h1 n1) (keysAt_of h2 n2)
theorem handAt_of {K : PySem.W.Frag} {H : Hp} {v : V} {ks : List Ky} {e : Dt} (h : At K H v e) (hn : norm e = norm (dH ks)) : HandAt K H v ks := by
  have hr : isRow e = true := by rw [← row_norm, hn, row_norm]; rfl
  obtain ⟨a, xs, rfl, hrow, hx⟩ := at_row h hr
  refine ⟨a, xs, rfl, hrow, keysAt_of hx ?_⟩
  rw [← items_norm, hn, items_norm]
  show (ks.map _).map norm = _
  rw [List.map_map]
  rfl
theorem at_dH {K : PySem.W.Frag} {p : Addr} {H : Hp} {a : Addr} {ks : List Ky} (h : HandL p H a ks) (hok : ∀ k ∈ ks, k.ok) : At K (hid p H) (.ref a) (dH ks) := by
  obtain ⟨ha, xs, hx, hp⟩ := h
  have : Ats K (hid p H) xs (ks.map fun k => .tup (kD k)) := by
    clear hx
    induction hp with
    | nil => unfold Ats; rfl
    | cons r t ih =>
      obtain ⟨b, rfl, hb, hbv⟩ := r
      unfold Ats
      refine ⟨_, _, rfl, ?_, ih fun k hk => hok k (List.mem_cons_of_mem _ hk)⟩
      unfold At
      exact ⟨b, _, rfl, SqT.of (by rw [hid_ne hb]; exact hbv), ats_key _ (hok _ (List.mem_cons_self ..))⟩
  unfold dH At
  exact ⟨a, xs, rfl, SqL.of (by rw [hid_ne ha]; exact hx), this⟩
theorem kD_fits {k : Ky} (hok : k.ok) (hw : k.wt ≤ 60) : ∀ d ∈ kD k, Fits d ∧ deep d ≤ 0 ∧ bulk d ≤ 60 := by
  have hs : ∀ z ∈ (["write", "paste", "left", "right", "strike", "rub", "copy", "cut"] : List Str), Fits (.str (nm z)) ∧ deep (.str (nm z)) ≤ 0 ∧ bulk (.str (nm z)) ≤ 60 := fun z hz => by
    refine ⟨?_, Nat.le_refl _, ?_⟩
    · unfold Fits
      exact fun c hc => Nat.lt_of_lt_of_le ((by decide +kernel : ∀ z ∈ (["write", "paste", "left", "right", "strike", "rub", "copy", "cut"] : List Str), ∀ c ∈ nm z, c < 1000) z hz c hc) (by decide)
    · unfold bulk
      exact Nat.le_trans (kn_names z hz).2 (by decide)
  have hi : ∀ n : Nat, n ≤ 60 → Fits (.int n) ∧ deep (.int n) ≤ 0 ∧ bulk (.int n) ≤ 60 := fun n hn => ⟨by unfold Fits; exact Nat.lt_of_le_of_lt (show (n : Int).natAbs ≤ 60 by omega) (by decide), Nat.le_refl _, by unfold bulk; exact Nat.zero_le _⟩
  intro d hd
  cases k <;> simp only [kD, List.mem_cons, List.not_mem_nil, or_false] at hd
  case paste => subst hd; exact hs _ (by simp)
  case write w =>
    rcases hd with rfl | rfl
    · exact hs _ (by simp)
    · refine ⟨?_, Nat.le_refl _, by unfold bulk; exact hok.2.1⟩
      unfold Fits
      exact fun c hc => Nat.lt_of_lt_of_le ((by decide +kernel : ∀ c ∈ alpha, c < 1000) c (by simpa using plain_mem hok.2.2 hc)) (by decide)
  all_goals (rcases hd with rfl | rfl; exact hs _ (by simp); exact hi _ hw)
theorem kD_len (k : Ky) : (kD k).length ≤ 2 := by cases k <;> simp [kD]
theorem dH_fits {ks : List Ky} (h : GoodH ks) : Fits (dH ks) ∧ deep (dH ks) ≤ 2 ∧ bulk (dH ks) ≤ 300000 := by
  have hk : ∀ d ∈ (ks.map fun k => Dt.tup (kD k)), Fits d ∧ deep d ≤ 1 ∧ bulk d ≤ 200 := fun d hd => by
    obtain ⟨k, hkm, rfl⟩ := List.mem_map.mp hd
    have h1 := kD_fits (h.ok k hkm) (Nat.le_trans (hwt_mem hkm) h.wt)
    refine ⟨by unfold Fits; exact fitsAll_of fun d hd => (h1 d hd).1, ?_, ?_⟩
    · unfold deep
      have := deepAll_le (n := 0) (ds := kD k) fun d hd => (h1 d hd).2.1
      omega
    · unfold bulk
      have := bulkAll_le (n := 60) (ds := kD k) fun d hd => (h1 d hd).2.2
      have h2 := kD_len k
      have : (kD k).length * (60 + 1) ≤ 2 * 61 := Nat.mul_le_mul_right _ h2
      omega
  refine ⟨by unfold dH Fits; exact fitsAll_of fun d hd => (hk d hd).1, ?_, ?_⟩
  · unfold dH deep
    have := deepAll_le (n := 1) (ds := ks.map fun k => Dt.tup (kD k)) fun d hd => (hk d hd).2.1
    omega
  · unfold dH bulk
    have h1 := bulkAll_le (n := 200) (ds := ks.map fun k => Dt.tup (kD k)) fun d hd => (hk d hd).2.2
    have h2 := h.few
    rw [List.length_map] at h1
    have : ks.length * (200 + 1) ≤ 60 * 201 := Nat.mul_le_mul_right _ h2
    omega
theorem dH_neat {ks : List Ky} (h : GoodH ks) : Neat (dH ks) := ⟨(dH_fits h).1, Nat.le_trans (dH_fits h).2.1 (by decide), (dH_fits h).2.2⟩

def sD (s : Sh) : List Dt := [.str s.w, .int s.n, .str s.k]
theorem ats_sheet {K : PySem.W.Frag} {H : Hp} {s : Sh} (g : GoodS s) : Ats K H s.vs (sD s) := by
  unfold sD Sh.vs Ats
  refine ⟨_, _, rfl, by unfold At; exact ⟨rfl, g.wl⟩, ?_⟩
  unfold Ats
  refine ⟨_, _, rfl, by unfold At; rfl, ?_⟩
  unfold Ats
  exact ⟨_, _, rfl, by unfold At; exact ⟨rfl, Nat.le_trans g.kl (by decide)⟩, by unfold Ats; rfl⟩
theorem at_shT {K : PySem.W.Frag} {H : Hp} {a : Addr} {s : Sh} (h : H a = some (.tup s.vs)) (g : GoodS s) : At K H (.ref a) (.tup (sD s)) := by
  unfold At
  exact ⟨a, _, rfl, SqT.of h, ats_sheet g⟩
theorem at_shN {K : PySem.W.Frag} {H : Hp} {v : V} {s : Sh} (h : SheetAt K H v s) (g : GoodS s) : ∃ d, At K H v d ∧ norm d = norm (.tup (sD s)) := by
  obtain ⟨a, rfl, h⟩ := h
  rcases h with h | h
  · exact ⟨.lst (sD s), by unfold At; exact ⟨a, _, rfl, h, ats_sheet g⟩, by rw [norm_lst, norm_tup]⟩
  · exact ⟨.tup (sD s), by unfold At; exact ⟨a, _, rfl, h, ats_sheet g⟩, rfl⟩
theorem at_handN {K : PySem.W.Frag} {H : Hp} {v : V} {ks : List Ky} (h : HandAt K H v ks) (hk : ∀ k ∈ ks, k.ok) : ∃ d, At K H v d ∧ norm d = norm (dH ks) := by
  obtain ⟨a, xs, rfl, h, hp⟩ := h
  have hx : ∃ ds, Ats K H xs ds ∧ ds.map norm = ks.map fun k => norm (.tup (kD k)) := by
    clear h
    induction hp with
    | nil => exact ⟨[], by unfold Ats; rfl, rfl⟩
    | @cons x k xs ks r t ih =>
      obtain ⟨ds, hd, hn⟩ := ih fun k hk' => hk k (List.mem_cons_of_mem _ hk')
      obtain ⟨b, rfl, hb⟩ := r
      have hkk := hk k (List.mem_cons_self ..)
      rcases hb with hb | hb
      · exact ⟨.lst (kD k) :: ds, by unfold Ats; exact ⟨_, _, rfl, by unfold At; exact ⟨b, _, rfl, hb, ats_key k hkk⟩, hd⟩, by rw [List.map_cons, List.map_cons, hn, norm_lst, norm_tup]⟩
      · exact ⟨.tup (kD k) :: ds, by unfold Ats; exact ⟨_, _, rfl, by unfold At; exact ⟨b, _, rfl, hb, ats_key k hkk⟩, hd⟩, by rw [List.map_cons, List.map_cons, hn]⟩
  obtain ⟨ds, hd, hn⟩ := hx
  have e : norm (.lst ds) = norm (dH ks) := by
    unfold dH
    rw [norm_lst, norm_lst, hn, List.map_map]
    rfl
  rcases h with h | h
  · exact ⟨.lst ds, by unfold At; exact ⟨a, _, rfl, h, hd⟩, e⟩
  · exact ⟨.tup ds, by unfold At; exact ⟨a, _, rfl, h, hd⟩, by rw [← e, norm_lst, norm_tup]⟩
theorem plain_fits {x : List Nat} (h : Plain x) : ∀ c ∈ x, c < 4294967296 := fun c hc => Nat.lt_of_lt_of_le ((by decide +kernel : ∀ c ∈ alpha, c < 1000) c (by simpa using plain_mem h hc)) (by decide)
theorem sD_fits {s : Sh} (g : GoodS s) : Fits (.tup (sD s)) := by
  have hn := g.n
  have hw := g.wl
  unfold sD
  simp only [Fits, FitsAll, and_true]
  exact ⟨plain_fits g.w, Nat.lt_of_le_of_lt (show ((s.n : Nat) : Int).natAbs ≤ 1000000 by omega) (by decide), plain_fits g.k⟩
theorem sD_deep (s : Sh) : deep (.tup (sD s)) = 1 := by simp [sD, deep, deepAll]
theorem sD_bulk (s : Sh) : bulk (.tup (sD s)) = s.w.length + 1 + (0 + 1 + (s.k.length + 1)) := by simp [sD, bulk, bulkAll]
theorem two_neat {s : Sh} {ks : List Ky} (g : GoodS s) (gh : GoodH ks) (hw : s.w.length ≤ 1000) : Neat (.lst [.tup (sD s), dH ks]) := by
  obtain ⟨d1, d2, d3⟩ := dH_fits gh
  have hk := g.kl
  have hb : bulk (dH ks) ≤ 13000 := by
    have hkk : ∀ d ∈ (ks.map fun k => Dt.tup (kD k)), bulk d ≤ 200 := fun d hd => by
      obtain ⟨k, hkm, rfl⟩ := List.mem_map.mp hd
      have h1 := kD_fits (gh.ok k hkm) (Nat.le_trans (hwt_mem hkm) gh.wt)
      unfold bulk
      have := bulkAll_le (n := 60) (ds := kD k) fun d hd => (h1 d hd).2.2
      have h2 := kD_len k
      have : (kD k).length * (60 + 1) ≤ 2 * 61 := Nat.mul_le_mul_right _ h2
      omega
    unfold dH bulk
    have h1 := bulkAll_le (n := 200) (ds := ks.map fun k => Dt.tup (kD k)) hkk
    have h2 := gh.few
    rw [List.length_map] at h1
    have : ks.length * (200 + 1) ≤ 60 * 201 := Nat.mul_le_mul_right _ h2
    omega
  refine ⟨?_, ?_, ?_⟩
  · unfold Fits FitsAll FitsAll FitsAll
    exact ⟨sD_fits g, d1, trivial⟩
  · unfold deep deepAll deepAll deepAll
    rw [sD_deep]
    omega
  · unfold bulk bulkAll bulkAll bulkAll
    rw [sD_bulk]
    omega
theorem at_lst2 {K : PySem.W.Frag} {H : Hp} {l : Addr} {v1 v2 : V} {d1 d2 : Dt} (hl : H l = some (.lst [v1, v2])) (h1 : At K H v1 d1) (h2 : At K H v2 d2) : At K H (.ref l) (.lst [d1, d2]) := by
  unfold At
  refine ⟨l, _, rfl, SqL.of hl, ?_⟩
  unfold Ats
  refine ⟨_, _, rfl, h1, ?_⟩
  unfold Ats
  exact ⟨_, _, rfl, h2, by unfold Ats; rfl⟩
theorem at_lst3 {K : PySem.W.Frag} {H : Hp} {l : Addr} {v1 v2 v3 : V} {d1 d2 d3 : Dt} (hl : H l = some (.lst [v1, v2, v3])) (h1 : At K H v1 d1) (h2 : At K H v2 d2) (h3 : At K H v3 d3) : At K H (.ref l) (.lst [d1, d2, d3]) := by
  unfold At
  refine ⟨l, _, rfl, SqL.of hl, ?_⟩
  unfold Ats
  refine ⟨_, _, rfl, h1, ?_⟩
  unfold Ats
  refine ⟨_, _, rfl, h2, ?_⟩
  unfold Ats
  exact ⟨_, _, rfl, h3, by unfold Ats; rfl⟩
def spRight (K : PySem.W.Frag) : Sp := fun vs H Q _ => ∃ (sa : Addr) (hv v1 v2 : V) (s : Sh) (ks : List Ky) (t : Nat), vs = [.ref sa, hv, v1, v2, .int t] ∧ H sa = some (.tup s.vs) ∧ HandAt K H hv ks ∧ SheetAt K H v1 s ∧ HandAt K H v2 ks ∧ GoodS s ∧ s.w.length ≤ 100 ∧ GoodH ks ∧ t ≤ 40 ∧
  ∀ H', Same H H' → Q (.bl true) H'
theorem ok__law_right (T : Txt K mg w) : FnG P w K mg base CX0 8 T.f__law_right.f T.f__law_right.fd ["sheet", "hand", "handed", "keys", "often_so"] (spRight K) := by
  refine funG T.f__law_right.F sc__law_right (fun vs H Q E h => ?_) (fun cdv A outer s H vs Q E hg hr h => ?_)
  · obtain ⟨sa, hv, v1, v2, s, ks, t, rfl, _⟩ := h
    rfl
  obtain ⟨sa, hv, v1, v2, s, ks, t, rfl, hs, hh, hs1, hh2, gs, hw, gh, ht, q⟩ := h
  refine ⟨_, (pss_cons (ps_set (i := 5) sc__law_right.nd rfl (.inl rfl) (pe_callB (call_reprG hg hr.units) (by rfl) T.b_repr (by decide +kernel) (pa_cons (pe_lst (pa_cons (pv 2) (pa_cons (pv 3) pa_nil))) pa_nil)))
      (pss_cons (ps_set (i := 6) sc__law_right.nd rfl (.inl rfl) (pe_lst (pa_cons (pe_callN (ok_press T) (hr.mono (by decide)) (by rfl) T.f_press.g T.f_press.F.kp T.f_press.kb pass0 (pa_cons (pv 2) (pa_cons (pv 3) pa_nil)) (pk_cons (pv 4) pk_nil)) (pa_cons (pe_call (ok_press T) (hr.mono (by decide)) (by rfl) T.f_press.g T.f_press.F.kp T.f_press.bd T.f_press.vd pass0 (pa_cons (pv 2) (pa_cons (pv 3) pa_nil))) (pa_cons (pe_callN (ok_press T) (hr.mono (by decide)) (by rfl) T.f_press.g T.f_press.F.kp T.f_press.kb pass0 (pa_cons (pv 2) (pa_cons (pv 3) pa_nil)) (pk_cons pe_int pk_nil)) pa_nil)))))
      (pss_cons (ps_set (i := 7) sc__law_right.nd rfl (.inl rfl) (pe_lst (pa_cons (pe_call (ok__law_pressed T) (hr.mono (by decide)) (by rfl) T.f__law_pressed.g T.f__law_pressed.F.kp T.f__law_pressed.b .nil pass0 (pa_cons (pv 0) (pa_cons (pv 1) (pa_cons (pv 4) pa_nil)))) (pa_cons (pe_call (ok__law_pressed T) (hr.mono (by decide)) (by rfl) T.f__law_pressed.g T.f__law_pressed.F.kp T.f__law_pressed.b .nil pass0 (pa_cons (pv 0) (pa_cons (pv 1) (pa_cons pe_int pa_nil)))) (pa_cons (pv 0) pa_nil)))))
      (pss_one (ps_ret (pe_and (pe_call (ok__law_same T 3) (hr.mono (by first | decide | omega)) (by rfl) T.f__law_same.g T.f__law_same.F.kp T.f__law_same.b .nil pass0 (pa_cons (pv 6) (pa_cons (pv 7) pa_nil))) (pe_one (pe_cmpR op_eq (pe_callB (call_reprG hg hr.units) (by rfl) T.b_repr (by decide +kernel) (pa_cons (pe_lst (pa_cons (pv 2) (pa_cons (pv 3) pa_nil))) pa_nil)) (pv 5) (nomark _))))))))), ?_⟩
  walk_at "rd"
  refine ⟨_, rfl, _, rfl, by show 2 ≤ sizeLine; decide, fun l1 n1 => ?_⟩
  obtain ⟨d1, hd1, e1⟩ := at_shN hs1 gs
  obtain ⟨d2, hd2, e2⟩ := at_handN hh2 gh.ok
  have s1 := same_upd (o := .lst [v1, v2]) n1
  have hL1 := at_lst2 (upd_same (H := H) (a := l1) (o := .lst [v1, v2])) (At.same s1 _ _ hd1) (At.same s1 _ _ hd2)
  have nt : Neat (.lst [d1, d2]) := neat_like (by rw [norm_lst, norm_lst]; simp only [List.map_cons, List.map_nil, e1, e2]) (two_neat gs gh (by omega))
  refine ⟨l1, _, rfl, hL1, nt, ?_⟩
  clear hL1
  generalize upd H l1 (.lst [v1, v2]) = H1 at *
  have gle := gains_le gh
  have gb : ∀ n : Nat, n ≤ 40 → gains ks * n ≤ 3600 * 40 := fun n hn => Nat.le_trans (Nat.mul_le_mul gle hn) (Nat.le_refl _)
  have gbt := gb t ht
  have gb1 := gb 1 (by decide)
  have hkl := gs.kl
  obtain ⟨gT, lT⟩ := pressed_goodG gs gh t (by omega)
  obtain ⟨gO, lO⟩ := pressed_goodG gs gh 1 (by omega)
  have z0 : pressed ks 0 s = s := sh_sd gs.n
  dsimp only [tCallN]
  walk_at "rd"
  refine ⟨_, rfl, _, rfl, _, rfl, rfl, rfl, v1, v2, s, ks, t, rfl, hs1.same s1, hh2.same s1, gs, gh, by omega, by omega, by omega, fun p1 H2 s2 hp1 => ?_⟩
  have s12 := s1.trans s2
  refine ⟨_, rfl, _, rfl, v1, v2, s, ks, 1, rfl, hs1.same s12, hh2.same s12, gs, gh, by omega, by omega, by omega, fun p2 H3 s3 hp2 => ?_⟩
  have s13 := s12.trans s3
  dsimp only [tCallN]
  walk_at "rd"
  refine ⟨_, rfl, _, rfl, rfl, rfl, v1, v2, s, ks, 0, rfl, hs1.same s13, hh2.same s13, gs, gh, by omega, by omega, by omega, fun p3 H4 s4 hp3 => ?_⟩
  rw [z0] at hp3
  have s14 := s13.trans s4
  have hp1 := s4 _ _ (s3 _ _ hp1)
  have hp2 := s4 _ _ hp2
  refine ⟨by show 3 ≤ sizeLine; decide, fun l2 n2 => ?_⟩
  have s5 := same_upd (o := .lst [V.ref p1, V.ref p2, V.ref p3]) n2
  have kl2 := upd_same (H := H4) (a := l2) (o := .lst [V.ref p1, V.ref p2, V.ref p3])
  have s15 := s14.trans s5
  have hp1 := s5 _ _ hp1
  have hp2 := s5 _ _ hp2
  have hp3 := s5 _ _ hp3
  generalize upd H4 l2 (.lst [V.ref p1, V.ref p2, V.ref p3]) = H5 at *
  refine ⟨_, rfl, _, rfl, _, rfl, sa, hv, s, ks, t, rfl, s15 _ _ hs, hh.same s15, gs, gh, by omega, by omega, fun p4 H6 s6 hp4 => ?_⟩
  have s16 := s15.trans s6
  refine ⟨_, rfl, _, rfl, sa, hv, s, ks, 1, rfl, s16 _ _ hs, hh.same s16, gs, gh, by omega, by omega, fun p5 H7 s7 hp5 => ?_⟩
  have s17 := s16.trans s7
  refine ⟨_, rfl, by show 3 ≤ sizeLine; decide, fun l3 n3 => ?_⟩
  have s8 := same_upd (o := .lst [V.ref p4, V.ref p5, V.ref sa]) n3
  have kl3 := upd_same (H := H7) (a := l3) (o := .lst [V.ref p4, V.ref p5, V.ref sa])
  have hp4 := s8 _ _ (s7 _ _ hp4)
  have hp5 := s8 _ _ hp5
  have hsa := s8 _ _ (s17 _ _ hs)
  have s18 := s17.trans s8
  have s68 := (s6.trans s7).trans s8
  have D1 := at_lst3 (K := K) (s68 _ _ kl2) (at_shT (s68 _ _ hp1) gT) (at_shT (s68 _ _ hp2) gO) (at_shT (s68 _ _ hp3) gs)
  have D2 := at_lst3 (K := K) kl3 (at_shT hp4 gT) (at_shT hp5 gO) (at_shT hsa gs)
  generalize upd H7 l3 (.lst [V.ref p4, V.ref p5, V.ref sa]) = H8 at *
  refine ⟨_, rfl, _, rfl, _, _, _, rfl, D1, D2, ?_, ?_, ?_, fun H9 s9 => ⟨_, rfl, iteY rfl ?_⟩⟩
  · unfold deep deepAll deepAll deepAll deepAll
    rw [sD_deep, sD_deep, sD_deep]
    omega
  · unfold Fits FitsAll FitsAll FitsAll FitsAll
    exact ⟨sD_fits gT, sD_fits gO, sD_fits gs, trivial⟩
  · unfold bulk bulkAll bulkAll bulkAll bulkAll
    rw [sD_bulk, sD_bulk, sD_bulk]
    have k1 := gT.kl
    have k2 := gO.kl
    omega
  have s19 := s18.trans s9
  refine ⟨_, rfl, _, rfl, by show 2 ≤ sizeLine; decide, fun l4 n4 => ?_⟩
  have s10 := s19.trans (same_upd (o := .lst [v1, v2]) n4)
  have hL4 := at_lst2 (upd_same (H := H9) (a := l4) (o := .lst [v1, v2])) (At.same s10 _ _ hd1) (At.same s10 _ _ hd2)
  refine ⟨l4, _, rfl, hL4, nt, _, rfl, rfl, ?_⟩
  rw [decide_eq_true rfl]
  exact q _ s10

theorem kD_norm (k : Ky) : norm (.tup (kD k)) = .lst (kD k) := by
  rw [norm_tup]
  have : ∀ ds : List Dt, (∀ d ∈ ds, isRow d = false) → ds.map norm = ds := fun ds => by
    induction ds with
    | nil => intro _; rfl
    | cons c ds ih => intro h; rw [List.map_cons, norm_leaf (h c (List.mem_cons_self ..)), ih fun d hd => h d (List.mem_cons_of_mem _ hd)]
  rw [this _ (kD_leaf k)]
theorem dH_norm (ks : List Ky) : norm (dH ks) = .lst (ks.map fun k => .lst (kD k)) := by
  unfold dH
  rw [norm_lst, List.map_map]
  congr 1
  exact List.map_congr_left fun k _ => kD_norm k
def KeyLs (S : Addr → Prop) (H : Hp) (v : V) (k : Ky) : Prop := ∃ b, v = .ref b ∧ S b ∧ H b = some (.lst k.vs)
theorem row_of {K : PySem.W.Frag} {H : Hp} {S : Addr → Prop} : ∀ {ks : List Ky} {xs : List V} {fs : List Addr}, AtFs H xs (ks.map fun k => .lst (kD k)) fs → (∀ b ∈ fs, S b) → Paired (KeyLs S H) xs ks
  | [], xs, fs, h, _ => by
    unfold List.map AtFs at h
    obtain ⟨rfl, _⟩ := h
    exact .nil
  | k :: ks, xs, fs, h, hS => by
    rw [List.map_cons] at h
    unfold AtFs at h
    obtain ⟨v, us, f, fs, rfl, h1, h2, rfl⟩ := h
    unfold AtF at h1
    obtain ⟨b, ys, f2, rfl, hb, hy, rfl⟩ := h1
    have := ats_vs (K := K) k (AtFs.at _ _ _ hy)
    subst this
    exact .cons ⟨b, rfl, hS b (List.mem_append_left _ (List.mem_cons_self ..)), hb⟩ (row_of (K := K) h2 fun c hc => hS c (List.mem_append_right _ hc))
theorem prd_set {α β : Type} {R : α → β → Prop} : ∀ {xs : List α} {ys : List β} {i : Nat} {x : α} {y : β}, Paired R xs ys → R x y → Paired R (xs.set i x) (ys.set i y)
  | _, _, _, _, _, .nil, _ => .nil
  | _, _, 0, _, _, .cons _ t, r => .cons r t
  | _, _, i + 1, _, _, .cons r0 t, r => .cons r0 (prd_set t r)
theorem hwt_le : ∀ {ks : List Ky}, (∀ k ∈ ks, k.wt ≤ 60) → hwt ks ≤ 60 * ks.length
  | [], _ => Nat.le_refl _
  | k :: ks, h => by
    have h1 := h k (List.mem_cons_self ..)
    have h2 := hwt_le (ks := ks) fun x hx => h x (List.mem_cons_of_mem _ hx)
    rw [hwt_cons, List.length_cons]
    omega
def Off (p r hd : Addr) (b : Addr) : Prop := b ≠ p ∧ b ≠ r ∧ b ≠ hd
theorem keyls_mv {p r hd : Addr} {H H' : Hp} {xs : List V} {js : List Ky} (f : ∀ b o, b ≠ p → b ≠ r → b ≠ hd → H b = some o → H' b = some o) (h : Paired (KeyLs (Off p r hd) H) xs js) : Paired (KeyLs (Off p r hd) H') xs js :=
  prd_same (fun _ _ ⟨b, e, hb, hk⟩ => ⟨b, e, hb, f _ _ hb.1 hb.2.1 hb.2.2 hk⟩) h
def WtOk (js : List Ky) : Prop := ∀ k ∈ js, k.ok ∧ k.wt ≤ 60
theorem WtOk.set {js : List Ky} {i : Nat} {k : Ky} (h : WtOk js) (hk : k.ok ∧ k.wt ≤ 60) : WtOk (js.set i k) := fun x hx => by
  rcases List.mem_or_eq_of_mem_set hx with hx | rfl
  · exact h x hx
  · exact hk
theorem WtOk.app {js : List Ky} {k : Ky} (h : WtOk js) (hk : k.ok ∧ k.wt ≤ 60) : WtOk (js ++ [k]) := fun x hx => by
  rcases List.mem_append.mp hx with hx | hx
  · exact h x hx
  · rw [List.mem_singleton.mp hx]; exact hk
theorem atI_lastA {α : Type} (xs : List α) (u : α) : atI (xs ++ [u]) (-1) = some u := by
  unfold atI
  rw [ixN_last]
  simp
theorem ixN_zero {n : Nat} (h : 0 < n) : ixN n 0 = some 0 := by
  unfold ixN
  rw [if_pos (by omega), if_pos (by omega)]
  rfl
theorem keyT_mv {D : Addr} {H H' : Hp} {xs : List V} {js : List Ky} (f : ∀ b o, b ≠ D → H b = some o → H' b = some o) (h : Paired (KeyT D H) xs js) : Paired (KeyT D H') xs js :=
  prd_same (fun _ _ ⟨b, e, hb, hk⟩ => ⟨b, e, hb, f _ _ hb hk⟩) h
theorem hand_ls {K : PySem.W.Frag} {S : Addr → Prop} {H : Hp} {r : Addr} {xs : List V} {js : List Ky} (h : H r = some (.lst xs)) (hp : Paired (KeyLs S H) xs js) : HandAt K H (.ref r) js :=
  ⟨r, xs, rfl, .inl (SqL.of h), prd_same (fun _ _ ⟨b, e, _, hk⟩ => ⟨b, e, .inl (SqL.of hk)⟩) hp⟩
theorem hand_ts {K : PySem.W.Frag} {D : Addr} {H : Hp} {r : Addr} {xs : List V} {js : List Ky} (h : H r = some (.lst xs)) (hp : Paired (KeyT D H) xs js) : HandAt K H (.ref r) js :=
  ⟨r, xs, rfl, .inl (SqL.of h), prd_same (fun _ _ ⟨b, e, _, hk⟩ => ⟨b, e, .inr (SqT.of hk)⟩) hp⟩
theorem gains_len : ∀ {ks : List Ky}, (∀ k ∈ ks, k.wt ≤ 60) → gains ks ≤ 60 * ks.length
  | [], _ => Nat.le_refl _
  | k :: ks, h => by
    have h1 := h k (List.mem_cons_self ..)
    have h2 := gains_len (ks := ks) fun x hx => h x (List.mem_cons_of_mem _ hx)
    have h3 : k.gain ≤ 60 := by cases k <;> simp [Ky.gain, Ky.wt] at * <;> omega
    rw [gains_cons, List.length_cons]
    omega
theorem cut_flat (ws : List Int) (lo hi : Option Int) : (cutV (ws.map V.int) lo hi).all flatV = true := List.all_eq_true.mpr fun x hx => by
  unfold cutV at hx
  obtain ⟨w, _, rfl⟩ := List.mem_map.mp (List.mem_of_mem_drop (List.mem_of_mem_take hx))
  rfl
theorem hwt_take (ks : List Ky) (j : Nat) : hwt (ks.take j) ≤ hwt ks := by
  have h : hwt ks = hwt (ks.take j) + hwt (ks.drop j) := by
    conv => lhs; rw [← List.take_append_drop j ks]
    rw [hwt_app]
  omega

def spLaw (K : PySem.W.Frag) : Sp := fun vs H Q _ => ∃ (a : Addr) (ns : List Int), vs = [.ref a] ∧ SqL K H a (ns.map V.int) ∧ ns.length ≤ 63 ∧ ∀ H', Q (.bl true) H'
theorem Go.fr {p b : Addr} {H H' : Hp} (g : Go p H H') (hb : b ≠ p) (h : H' b = none) : H b = none := by
  cases e : H b with
  | none => rfl
  | some o =>
    rw [g.keep b o hb e] at h
    cases h
theorem shT_of {K : PySem.W.Frag} {H : Hp} {a : Addr} {s : Sh} (h : H a = some (.tup s.vs)) : SheetAt K H (.ref a) s := ⟨a, rfl, .inr (SqT.of h)⟩
theorem shL_of {K : PySem.W.Frag} {H : Hp} {a : Addr} {s : Sh} (h : H a = some (.lst s.vs)) : SheetAt K H (.ref a) s := ⟨a, rfl, .inl (SqL.of h)⟩
theorem ok_law (T : Txt K mg w) : FnG P w K mg base CX0 9 T.f_law.f T.f_law.fd ["script"] (spLaw K) := by
  refine funG T.f_law.F sc_law (fun vs H Q E h => ?_) (fun cdv A outer s H vs Q E hg hr h => ?_)
  · obtain ⟨a, ns, rfl, _⟩ := h
    rfl
  obtain ⟨a, ns, rfl, hs, hlen, q⟩ := h
  refine ⟨_, (pss_cons (ps_set (i := 1) sc_law.nd rfl (.inl rfl) (pe_call (ok__law_spring T) (hr.mono (by decide)) (by rfl) T.f__law_spring.g T.f__law_spring.F.kp T.f__law_spring.b .nil pass0 (pa_cons (pv 0) pa_nil)))
      (pss_cons (ps_for PassesOwn.never rfl (pi_range1 (by rfl) T.b_range (pa_cons (pe_op op_add pe_int (pe_callB (call_min2 rfl) (by rfl) T.b_min (by decide +kernel) (pa_cons (pe_op op_mul (pe_callB (call_lenK K) (by rfl) T.b_len (by decide +kernel) (pa_cons (pv 0) pa_nil)) pe_int) (pa_cons pe_int pa_nil)))) pa_nil)) (pg_name (i := 2) sc_law.nd rfl (.inl rfl))
        (pss_cons (ps_set (i := 3) sc_law.nd rfl (.inl rfl) (pe_call (ok__law_sheet T) (hr.mono (by decide)) (by rfl) T.f__law_sheet.g T.f__law_sheet.F.kp T.f__law_sheet.b .nil pass0 (pa_cons (pv 1) (pa_cons pe_int pa_nil))))
      (pss_cons (ps_set (i := 4) sc_law.nd rfl (.inl rfl) (pe_call (ok__law_hand T) (hr.mono (by decide)) (by rfl) T.f__law_hand.g T.f__law_hand.F.kp T.f__law_hand.b .nil pass0 (pa_cons (pv 1) (pa_cons pe_int (pa_cons (pe_ix ix_seq (pe_lst (pa_cons pe_int (pa_cons pe_int (pa_cons pe_int pa_nil)))) (pe_call (ok__law_draw T) (hr.mono (by decide)) (by rfl) T.f__law_draw.g T.f__law_draw.F.kp T.f__law_draw.b .nil pass0 (pa_cons (pv 1) (pa_cons pe_int pa_nil))) (fun _ _ => rfl)) pa_nil)))))
      (pss_cons (ps_set (i := 5) sc_law.nd rfl (.inl rfl) (pe_call (ok__law_handed T) (hr.mono (by decide)) (by rfl) T.f__law_handed.g T.f__law_handed.F.kp T.f__law_handed.b .nil pass0 (pa_cons (pv 1) (pa_cons (pv 4) pa_nil))))
      (pss_cons (ps_if (pt_not (pt_val (pe_callG (ok__law_right T) hg (hr.mono (by decide)) (by rfl) T.f__law_right.g T.f__law_right.F.kp T.f__law_right.b .nil pass0 (pa_cons (pv 3) (pa_cons (pv 4) (pa_cons (pe_ix ix_seq (pe_lst (pa_cons (pv 3) (pa_cons (pe_callTy call_list_of (by rfl) T.b_list (by decide +kernel) (pa_cons (pv 3) pa_nil)) pa_nil))) (pe_call (ok__law_draw T) (hr.mono (by decide)) (by rfl) T.f__law_draw.g T.f__law_draw.F.kp T.f__law_draw.b .nil pass0 (pa_cons (pv 1) (pa_cons pe_int pa_nil))) (fun _ _ => rfl)) (pa_cons (pv 5) (pa_cons (pe_call (ok__law_draw T) (hr.mono (by decide)) (by rfl) T.f__law_draw.g T.f__law_draw.F.kp T.f__law_draw.b .nil pass0 (pa_cons (pv 1) (pa_cons pe_int pa_nil))) pa_nil)))))))) (pss_one (ps_ret pe_bl)) pss_nil)
      (pss_cons (ps_par (i := 6) (j := 7) (by rfl) sc_law.nd rfl rfl (by decide) rfl rfl (pa_cons (pe_callTy call_list_of (by rfl) T.b_list (by decide +kernel) (pa_cons (pv 3) pa_nil)) (pa_cons (pe_call (ok__law_lists T 3) (hr.mono (by first | decide | omega)) (by rfl) T.f__law_lists.g T.f__law_lists.F.kp T.f__law_lists.b .nil pass0 (pa_cons (pv 4) pa_nil)) pa_nil)) (by rfl))
      (pss_one (ps_for PassesOwn.never rfl (pi_range1 (by rfl) T.b_range (pa_cons pe_int pa_nil)) (pg_name (i := 8) sc_law.nd rfl (.inl rfl))
        (pss_cons (ps_expr (pe_bm PySem.F.plainAttrs_list PySem.F.slot_list_append PySem.F.type_list_append mt_append (pv 7) (pa_cons (pe_lst (pa_cons pe_str (pa_cons (pe_call (ok__law_word T) (hr.mono (by decide)) (by rfl) T.f__law_word.g T.f__law_word.F.kp T.f__law_word.b .nil pass0 (pa_cons (pv 1) (pa_cons pe_int pa_nil))) pa_nil))) pa_nil)))
      (pss_cons (ps_asg (pe_tup (pa_cons (pe_ix ix_seq (pv 7) (pe_un un_neg pe_int) (fun _ _ => rfl)) (pa_cons (pe_ix ix_seq (pv 7) pe_int (fun _ _ => rfl)) pa_nil))) (pg_tup rfl (pgs_cons (pg_sub (pv 7) pe_int set_list) (pgs_cons (pg_sub (pv 7) (pe_un un_neg pe_int) set_list) pgs_nil))))
      (pss_cons (ps_asg (pe_call (ok__law_word T) (hr.mono (by decide)) (by rfl) T.f__law_word.g T.f__law_word.F.kp T.f__law_word.b .nil pass0 (pa_cons (pv 1) (pa_cons pe_int pa_nil))) (pg_sub (pv 6) pe_int set_list))
      (pss_cons (ps_asg (pe_op op_add_str (pe_ix ix_seq (pv 6) pe_int (fun _ _ => rfl)) pe_str) (pg_sub (pv 6) pe_int set_list))
      (pss_cons (ps_setLc (i := 9) (own := [("key", 15)]) rfl sc_law.nd rfl rfl (sw_true rfl rfl rfl (by decide +kernel)) (pi_list (pv 7)) (blkOk_by (own := [("key", 15)]) (N := N_law) (sc := defScope s_law) (by decide +kernel)) (fun _ _ _ _ _ => (pg_name (i := 15) sc_law.nd rfl (.inl rfl))) (fun _ _ _ _ _ => pts_nil) (fun _ _ _ _ _ => (pe_callTy call_tuple_ofK (by rfl) T.b_tuple (by decide +kernel) (pa_cons (pv 15) pa_nil))))
      (pss_one (ps_if (PW.pt (pw_and (pt_cmpR op_le (pe_call (ok__law_heavy T) (hr.mono (by decide)) (by rfl) T.f__law_heavy.g T.f__law_heavy.F.kp T.f__law_heavy.b .nil pass0 (pa_cons (pv 9) pa_nil)) pe_int (nomark _)) (pw_and1 (pt_not (pt_val (pe_callG (ok__law_right T) hg (hr.mono (by decide)) (by rfl) T.f__law_right.g T.f__law_right.F.kp T.f__law_right.b .nil pass0 (pa_cons (pe_callTy call_tuple_of (by rfl) T.b_tuple (by decide +kernel) (pa_cons (pv 6) pa_nil)) (pa_cons (pv 9) (pa_cons (pv 6) (pa_cons (pv 7) (pa_cons pe_int pa_nil))))))))))) (pss_one (ps_ret pe_bl)) pss_nil)))))))))))))))
      (pss_cons (ps_set (i := 10) sc_law.nd rfl (.inl rfl) (pe_lst (pa_cons (pe_lst (pa_cons (pe_tup (pa_cons pe_str (pa_cons pe_str pa_nil))) (pa_cons (pe_tup (pa_cons pe_str (pa_cons pe_int pa_nil))) pa_nil))) (pa_cons (pe_lst (pa_cons (pe_tup (pa_cons pe_str (pa_cons pe_int pa_nil))) (pa_cons (pe_tup (pa_cons pe_str (pa_cons pe_int pa_nil))) (pa_cons (pe_tup (pa_cons pe_str pa_nil)) pa_nil)))) (pa_cons (pe_lst (pa_cons (pe_tup (pa_cons pe_str (pa_cons pe_int pa_nil))) pa_nil)) pa_nil)))))
      (pss_cons (ps_set (i := 10) sc_law.nd rfl (.inl rfl) (pe_ix ix_seq (pv 10) (pe_call (ok__law_draw T) (hr.mono (by decide)) (by rfl) T.f__law_draw.g T.f__law_draw.F.kp T.f__law_draw.b .nil pass0 (pa_cons (pv 1) (pa_cons pe_int pa_nil))) (fun _ _ => rfl)))
      (pss_cons (ps_set (i := 3) sc_law.nd rfl (.inl rfl) (pe_call (ok__law_sheet T) (hr.mono (by decide)) (by rfl) T.f__law_sheet.g T.f__law_sheet.F.kp T.f__law_sheet.b .nil pass0 (pa_cons (pv 1) (pa_cons pe_int pa_nil))))
      (pss_cons (ps_if (pt_cmpR (op_neD hr.units) (pe_callN (ok_press T) (hr.mono (by decide)) (by rfl) T.f_press.g T.f_press.F.kp T.f_press.kb pass0 (pa_cons (pv 3) (pa_cons (pv 10) pa_nil)) (pk_cons pe_int pk_nil)) (pe_call (ok__law_pressed T) (hr.mono (by decide)) (by rfl) T.f__law_pressed.g T.f__law_pressed.F.kp T.f__law_pressed.b .nil pass0 (pa_cons (pv 3) (pa_cons (pv 10) (pa_cons pe_int pa_nil)))) (nomark _)) (pss_one (ps_ret pe_bl)) pss_nil)
      (pss_cons (ps_set (i := 11) sc_law.nd rfl (.inr rfl) (pe_call (ok__law_hand T) (hr.mono (by decide)) (by rfl) T.f__law_hand.g T.f__law_hand.F.kp T.f__law_hand.b .nil pass0 (pa_cons (pv 1) (pa_cons pe_int (pa_cons pe_int pa_nil)))))
      (pss_cons (ps_set (i := 12) sc_law.nd rfl (.inr rfl) (pe_lc (own := [("at", 14)]) rfl sc_law.nd (pi_range1 (by rfl) T.b_range (pa_cons (pe_callB (call_lenK K) (by rfl) T.b_len (by decide +kernel) (pa_cons (pv 11) pa_nil)) pa_nil)) (blkOk_by (own := [("at", 14)]) (N := N_law) (sc := defScope s_law) (by decide +kernel)) (fun _ _ _ _ _ => (pg_name (i := 14) sc_law.nd rfl (.inl rfl))) (fun _ _ _ _ _ => (pts_one (pt_cmpR op_eq (pe_ix (ix_seqK K) (pe_ix (ix_seqK K) (pv 11) (pv 14) (fun _ _ => rfl)) pe_int (fun _ _ => rfl)) pe_str (nomark _)))) (fun _ _ _ _ _ => (pv 14))))
      (pss_cons (ps_set (i := 11) sc_law.nd rfl (.inr rfl) (pe_lc (own := [("at", 14)]) rfl sc_law.nd (pi_range1 (by rfl) T.b_range (pa_cons (pe_callB (call_lenK K) (by rfl) T.b_len (by decide +kernel) (pa_cons (pv 11) pa_nil)) pa_nil)) (blkOk_by (own := [("at", 14)]) (N := N_law) (sc := defScope s_law) (by decide +kernel)) (fun _ _ _ _ _ => (pg_name (i := 14) sc_law.nd rfl (.inl rfl))) (fun _ _ _ _ _ => (pts_one (pt_cmpR op_notIn_seqK (pv 14) (pe_slice sl_listK (pv 12) (po_some pe_int) po_none) (by rfl)))) (fun _ _ _ _ _ => (pe_ix (ix_seqK K) (pv 11) (pv 14) (fun _ _ => rfl)))))
      (pss_cons (ps_set (i := 13) sc_law.nd rfl (.inl rfl) (pe_op op_add pe_int (pe_call (ok__law_draw T) (hr.mono (by decide)) (by rfl) T.f__law_draw.g T.f__law_draw.F.kp T.f__law_draw.b .nil pass0 (pa_cons (pv 1) (pa_cons pe_int pa_nil)))))
      (pss_one (ps_ret (pe_cmpR (op_eqD hr.units) (pe_callN (ok_press T) (hr.mono (by decide)) (by rfl) T.f_press.g T.f_press.F.kp T.f_press.kb pass0 (pa_cons (pv 3) (pa_cons (pv 11) pa_nil)) (pk_cons (pv 13) pk_nil)) (pe_call (ok__law_pressed T) (hr.mono (by decide)) (by rfl) T.f__law_pressed.g T.f__law_pressed.F.kp T.f__law_pressed.b .nil pass0 (pa_cons (pv 3) (pa_cons (pv 11) (pa_cons (pv 13) pa_nil)))) (nomark _)))))))))))))), ?_⟩
  walk_at "rd"
  refine ⟨_, rfl, a, ns, rfl, hs, hlen, fun H1 p s1 fp spr => ?_⟩
  refine fr_rng1 ?_
  walk_at "rd"
  have sm : ∀ k : Int, 0 ≤ k → k < 3 → ∀ x y z : V, ∃ m, atI [x, y, z] k = some m ∧ (m = x ∨ m = y ∨ m = z) := fun k h1 h2 x y z => by
    have : k = 0 ∨ k = 1 ∨ k = 2 := by omega
    rcases this with rfl | rfl | rfl
    · exact ⟨x, rfl, .inl rfl⟩
    · exact ⟨y, rfl, .inr (.inl rfl)⟩
    · exact ⟨z, rfl, .inr (.inr rfl)⟩
  refine ⟨_, rfl, len_row (.inl (s1.seq hs)) ⟨_, _, rfl, rfl, .inr (by constructor <;> decide), ?_⟩⟩
  refine ⟨_, _, rfl, _, _, rfl, rfl, _, rfl, by split <;> omega, by split <;> omega, ForGo.range
    (fun i σ H2 => ∃ y2 y3 y4 y5 y6 y7 y8 y9 y10 y11 y12 y13 y14 y15, σ = [some (.ref a), some (.ref p), y2, y3, y4, y5, y6, y7, y8, y9, y10, y11, y12, y13, y14, y15] ∧ Go p H1 H2)
    ⟨_, _, _, _, _, _, _, _, _, _, _, _, _, _, rfl, Go.refl spr⟩ ?_ ?_⟩
  · rintro i σ H2 hi ⟨y2, y3, y4, y5, y6, y7, y8, y9, y10, y11, y12, y13, y14, y15, rfl, g2⟩
    walk_at "rd"
    refine ⟨_, rfl, p, 60, rfl, g2.spr, by decide, by decide, fun H3 sa sh g3 sap hsa gs swl => ?_⟩
    have g3' := g2.trans g3
    refine ⟨_, rfl, by show 3 ≤ sizeLine; decide, fun l1 nl1 => ?_⟩
    have hl1 := g3'.spr.ne nl1
    have g4 := go_new (o := .lst [V.int 3, V.int 9, V.int 30]) g3' nl1
    have hsa4 := same_upd (o := .lst [V.int 3, V.int 9, V.int 30]) nl1 _ _ hsa
    refine ⟨_, rfl, p, 3, rfl, g4.spr, by decide, by decide, fun H4 k1 g5 k10 k1l => ?_⟩
    obtain ⟨m1, hm1, hm1e⟩ := sm k1 k10 k1l (.int 3) (.int 9) (.int 30)
    obtain ⟨m1, rfl, hm2⟩ : ∃ m : Int, m1 = .int m ∧ 1 ≤ m ∧ m ≤ 30 := by
      rcases hm1e with rfl | rfl | rfl <;> exact ⟨_, rfl, by decide, by decide⟩
    refine ix_lst (g5.keep _ _ hl1 upd_same) hm1 ?_
    have g5' := g4.trans g5
    have hsa5 := g5.keep _ _ sap hsa4
    refine ⟨p, 12, m1, rfl, g5'.spr, by decide, by decide, by omega, by omega, fun H5 ha ks g6 nha hL hok hwt60 hkl => ?_⟩
    have g6' := g5'.trans g6
    have hsa6 := g6.keep _ _ sap hsa5
    have gk : GoodH ks := ⟨hok, hwt60⟩
    obtain ⟨df, dd, db⟩ := dH_fits gk
    refine ⟨_, rfl, _, rfl, p, _, dH ks, rfl, g6'.spr, at_dH hL hok, rfl, dd, df, db, fun H6 u e g7 hu hn => ?_⟩
    have g7' := g6'.trans g7
    have hsa7 := g7.keep _ _ sap hsa6
    have hL7 := hL.go g7
    have hre : isRow e = true := by rw [← row_norm, hn, row_norm]; rfl
    obtain ⟨ua, uxs, rfl, _, _⟩ := at_row hu hre
    have hwl100 : sh.w.length ≤ 60 := by omega
    -- the sheet as it is, or as a list
    refine ⟨_, rfl, _, rfl, _, rfl, _, rfl, sa, sh.vs, rfl, .inr (SqT.of hsa7), fun l2 nl2 => ⟨by show 2 ≤ sizeLine; decide, fun l3 nl3 => ?_⟩⟩
    have hl2p := g7'.spr.ne nl2
    have g8 := go_new (o := .lst sh.vs) g7' nl2
    have hl3p := g8.spr.ne nl3
    have g9 := go_new (o := .lst [V.ref sa, V.ref l2]) g8 nl3
    have s79 : Same H6 (upd (upd H6 l2 (.lst sh.vs)) l3 (.lst [V.ref sa, V.ref l2])) := (same_upd nl2).trans (same_upd nl3)
    have kl2 : (upd (upd H6 l2 (.lst sh.vs)) l3 (.lst [V.ref sa, V.ref l2])) l2 = some (.lst sh.vs) := same_upd nl3 _ _ upd_same
    have kl3 := upd_same (H := upd H6 l2 (.lst sh.vs)) (a := l3) (o := .lst [V.ref sa, V.ref l2])
    have g69 := Go.of_same g7'.spr s79
    generalize upd (upd H6 l2 (.lst sh.vs)) l3 (.lst [V.ref sa, V.ref l2]) = A1 at *
    refine ⟨_, rfl, p, 2, rfl, g9.spr, by decide, by decide, fun H7 k2 g10 k20 k2l => ?_⟩
    obtain ⟨v1, hv1, hv1e⟩ : ∃ v1, atI [V.ref sa, V.ref l2] k2 = some v1 ∧ (v1 = .ref sa ∨ v1 = .ref l2) := by
      have : k2 = 0 ∨ k2 = 1 := by omega
      rcases this with rfl | rfl
      · exact ⟨_, rfl, .inl rfl⟩
      · exact ⟨_, rfl, .inr rfl⟩
    have g10' := g9.trans g10
    refine ix_lst (g10.keep _ _ hl3p kl3) hv1 ⟨_, rfl, _, rfl, p, 41, rfl, g10'.spr, by decide, by decide, fun H8 t g11 t0 t41 => ?_⟩
    obtain ⟨t, rfl⟩ := Int.eq_ofNat_of_zero_le t0
    have g68 := (g69.trans g10).trans g11
    have g18 := g7'.trans g68
    have hsa8 := g68.keep _ _ sap hsa7
    have hL8 := hL7.go g68
    have hu8 := At.same (hid_same p H8) _ _ (At.same g68.hid _ _ hu)
    have hv1A : SheetAt K H8 v1 sh := by
      rcases hv1e with rfl | rfl
      · exact shT_of hsa8
      · exact shL_of (g11.keep _ _ hl2p (g10.keep _ _ hl2p kl2))
    refine ⟨sa, _, v1, _, sh, ks, t, rfl, hsa8, hL8.at, hv1A, handAt_of hu8 hn, gs, by omega, gk, by omega, fun H9 s9 => ⟨_, rfl, iteN rfl ?_⟩⟩
    have g19 := g18.same s9
    have hsa9 := s9 _ _ hsa8
    have hL9 := HandL.go (.of_same g18.spr s9) hL8
    refine ⟨_, rfl, sa, sh.vs, rfl, .inr (SqT.of hsa9), fun hd nhd => ?_⟩
    have hdp := g19.spr.ne nhd
    have g20 := go_new (o := .lst sh.vs) g19 nhd
    have khd := upd_same (H := H9) (a := hd) (o := .lst sh.vs)
    have hd1 : H1 hd = none := g19.fr hdp nhd
    have hsaB := same_upd (o := .lst sh.vs) nhd _ _ hsa9
    have hLB := HandL.go (.of_same g19.spr (same_upd (o := .lst sh.vs) nhd)) hL9
    generalize upd H9 hd (.lst sh.vs) = B at *
    have hatB : At K B (.ref ha) (dH ks) := At.same (hid_same p B) _ _ (at_dH hLB hok)
    refine ⟨_, rfl, _, dH ks, rfl, hatB, by omega, df, db, fun H10 r fp10 s10 hr10 hnd hfr => ?_⟩
    rw [dH_norm] at hr10
    unfold AtF at hr10
    obtain ⟨r, rxs, rfs, rfl, hrr, hrx, rfl⟩ := hr10
    have g21 := g20.same s10
    have khd10 := s10 _ _ khd
    have hrp : r ≠ p := g20.spr.ne (hfr r (List.mem_cons_self ..))
    have hrd : r ≠ hd := fun z => by
      have := hfr r (List.mem_cons_self ..)
      rw [z, khd] at this
      cases this
    have hr1 : H1 r = none := g20.fr hrp (hfr r (List.mem_cons_self ..))
    have hrow0 : Paired (KeyLs (Off p r hd) H10) rxs ks := row_of (K := K) (S := Off p r hd) hrx fun b hb => by
      have hbn := hfr b (List.mem_cons_of_mem _ hb)
      refine ⟨g20.spr.ne hbn, fun z => (List.nodup_cons.mp hnd).1 (by rw [← z]; exact hb), fun z => ?_⟩
      rw [z, khd] at hbn
      cases hbn
    refine ⟨_, _, rfl, ?_⟩
    refine fr_rng1 ?_
    walk_at "rd"
    refine ⟨_, rfl, by decide, by decide, ForGo.range
      (fun i2 σ H' => ∃ y8 y9 y10 y11 y12 y13 y14 y15 s2 js xs, σ = [some (.ref a), some (.ref p), some (.int (0 + i)), some (.ref sa), some (.ref ha), some (.ref ua), some (.ref hd), some (.ref r), y8, y9, y10, y11, y12, y13, y14, y15] ∧ Go p H1 H' ∧ H' hd = some (.lst (Sh.vs s2)) ∧ GoodS s2 ∧ s2.w.length ≤ 60 + i2 ∧ H' r = some (.lst xs) ∧ Paired (KeyLs (Off p r hd) H') xs js ∧ WtOk js ∧ js.length ≤ 60 + i2)
      ⟨_, _, _, _, _, _, _, _, sh, ks, rxs, rfl, g21, khd10, gs, by omega, hrr, hrow0, fun k hk => ⟨hok k hk, Nat.le_trans (hwt_mem hk) hwt60⟩, gk.few⟩ ?_ ?_⟩
    · rintro i2 σ H2 hi2 ⟨y8, y9, y10, y11, y12, y13, y14, y15, s2, js, xs, rfl, g22, hhd, gs2, sl2, hr2, hrow, hjs, hjl⟩
      have hi2 : i2 < 2 := hi2
      have hxl : xs.length = js.length := prd_len hrow
      walk_at "rd"
      refine ⟨_, rfl, .inl ⟨rfl, _, SqL.of hr2⟩, _, rfl, p, 2, rfl, g22.spr, by decide, by decide, fun H3 wd g23 wne wl wpl => ⟨by show 2 ≤ sizeLine; decide, fun b nb => ?_⟩⟩
      have wl2 : wd.length ≤ 2 := by omega
      have g23' := g22.trans g23
      have hr3 := g23.keep _ _ hrp hr2
      have hhd3 := g23.keep _ _ hdp hhd
      have hbp := g23'.spr.ne nb
      have hbr : b ≠ r := fun z => by rw [z, hr3] at nb; cases nb
      have hbd : b ≠ hd := fun z => by rw [z, hhd3] at nb; cases nb
      refine ⟨r, xs, _, rfl, rfl, by rw [upd_ne hbr.symm]; exact hr3, Nat.lt_of_le_of_lt (show xs.length ≤ 62 by omega) (by decide), ?_⟩
      have kwd : (Ky.write wd).ok ∧ (Ky.write wd).wt ≤ 60 := ⟨⟨wne, by omega, wpl⟩, by show wd.length ≤ 60; omega⟩
      have g24 : Go p H1 (upd (upd H3 b (.lst [V.str "write", V.str (tx wd)])) r (.lst (xs ++ [V.ref b]))) := go_mut (go_new g23' nb) hr1 hrp
      have hr4 := upd_same (H := upd H3 b (.lst [V.str "write", V.str (tx wd)])) (a := r) (o := .lst (xs ++ [V.ref b]))
      have hhd4 : (upd (upd H3 b (.lst [V.str "write", V.str (tx wd)])) r (.lst (xs ++ [V.ref b]))) hd = some (.lst s2.vs) := by
        rw [upd_ne hrd.symm, upd_ne hbd.symm]
        exact hhd3
      have hrow4 : Paired (KeyLs (Off p r hd) (upd (upd H3 b (.lst [V.str "write", V.str (tx wd)])) r (.lst (xs ++ [V.ref b])))) (xs ++ [V.ref b]) (js ++ [.write wd]) := by
        refine prd_app (keyls_mv (fun c o h1 h2 h3 hc => ?_) hrow) (.cons ⟨b, rfl, ⟨hbp, hbr, hbd⟩, ?_⟩ .nil)
        · have h4 := g23.keep _ _ h1 hc
          rw [upd_ne h2, upd_ne (fun z => by rw [z, nb] at h4; cases h4)]
          exact h4
        · rw [upd_ne hbr, upd_same]
          rfl
      have hjs4 : WtOk (js ++ [.write wd]) := hjs.app kwd
      have hjl4 : (js ++ [Ky.write wd]).length = js.length + 1 := by rw [List.length_append]; rfl
      generalize upd (upd H3 b (.lst [V.str "write", V.str (tx wd)])) r (.lst (xs ++ [V.ref b])) = H4 at *
      have hxl1 : (xs ++ [V.ref b]).length = xs.length + 1 := by rw [List.length_append]; rfl
      obtain ⟨x0, hx0⟩ : ∃ x0, (xs ++ [V.ref b])[0]? = some x0 := ⟨_, List.getElem?_eq_getElem (by omega)⟩
      obtain ⟨k0, hk0, rk0⟩ := prd_at hrow4 hx0
      have kl : (js ++ [Ky.write wd])[xs.length]? = some (.write wd) := by rw [hxl]; simp
      have rkl := prd_rel hrow4 (show (xs ++ [V.ref b])[xs.length]? = some (.ref b) by simp) kl
      have hlast := atI_lastA xs (V.ref b)
      generalize hXS : xs ++ [V.ref b] = xs1 at *
      generalize hJS : js ++ [Ky.write wd] = js1 at *
      refine ⟨_, rfl, _, rfl, ix_lst hr4 hlast ⟨_, rfl, ix_lst hr4 (at_ofA (j := 0) rfl hx0) ⟨by show 2 ≤ sizeLine; decide, fun t nt => ?_⟩⟩⟩
      have htr : t ≠ r := fun z => by rw [z, hr4] at nt; cases nt
      have htd : t ≠ hd := fun z => by rw [z, hhd4] at nt; cases nt
      have htp := g24.spr.ne nt
      have s5 := same_upd (o := .tup [V.ref b, x0]) nt
      have g25 := go_new (o := .tup [V.ref b, x0]) g24 nt
      have hr5 := s5 _ _ hr4
      have hhd5 := s5 _ _ hhd4
      have rk5 : Paired (KeyLs (Off p r hd) (upd H4 t (.tup [V.ref b, x0]))) xs1 js1 := keyls_mv (fun c o _ _ _ hc => s5 _ _ hc) hrow4
      have r0 : KeyLs (Off p r hd) (upd H4 t (.tup [V.ref b, x0])) x0 k0 := by obtain ⟨c, e1, e2, e3⟩ := rk0; exact ⟨c, e1, e2, s5 _ _ e3⟩
      have rl : KeyLs (Off p r hd) (upd H4 t (.tup [V.ref b, x0])) (.ref b) (.write wd) := by obtain ⟨c, e1, e2, e3⟩ := rkl; exact ⟨c, e1, e2, s5 _ _ e3⟩
      refine ⟨t, _, rfl, SqT.of upd_same, rfl, _, _, rfl, ?_⟩
      generalize upd H4 t (.tup [V.ref b, x0]) = H5 at *
      dsimp only [gSub]
      walk_at "rd"
      refine ⟨_, rfl, r, xs1, 0, 0, rfl, rfl, hr5, ixN_zero (by omega), _, _, rfl, _, rfl, _, rfl, r, xs1.set 0 (.ref b), -1, xs.length, rfl, rfl, upd_same, by rw [List.length_set, ← hXS]; exact ixN_last _ _, rfl, ?_⟩
      rw [upd_upd]
      have rk6 : Paired (KeyLs (Off p r hd) (upd H5 r (.lst ((xs1.set 0 (.ref b)).set xs.length x0)))) ((xs1.set 0 (.ref b)).set xs.length x0) ((js1.set 0 (.write wd)).set xs.length k0) :=
        keyls_mv (fun c o h1 h2 h3 hc => by rw [upd_ne h2]; exact hc) (prd_set (prd_set rk5 rl) r0)
      have hjs6 : WtOk ((js1.set 0 (.write wd)).set xs.length k0) := (hjs4.set kwd).set (hjs4 k0 (List.mem_of_getElem? hk0))
      have hjl6 : ((js1.set 0 (.write wd)).set xs.length k0).length ≤ 60 + (i2 + 1) := by rw [List.length_set, List.length_set]; omega
      have hr6 := upd_same (H := H5) (a := r) (o := .lst ((xs1.set 0 (.ref b)).set xs.length x0))
      have hhd6 : (upd H5 r (.lst ((xs1.set 0 (.ref b)).set xs.length x0))) hd = some (.lst s2.vs) := by rw [upd_ne hrd.symm]; exact hhd5
      have g26 : Go p H1 (upd H5 r (.lst ((xs1.set 0 (.ref b)).set xs.length x0))) := go_mut g25 hr1 hrp
      generalize upd H5 r (.lst ((xs1.set 0 (.ref b)).set xs.length x0)) = H6 at *
      generalize (xs1.set 0 (.ref b)).set xs.length x0 = zs at *
      generalize (js1.set 0 (.write wd)).set xs.length k0 = ms at *
      clear rk5 r0 rl hr5 hhd5 s5 hr4 hhd4 hrow4 hjs4 rk0 rkl
      refine ⟨_, rfl, p, 9, rfl, g26.spr, by decide, by decide, fun H7 wd2 g27 wne2 wl2' wpl2 => ?_⟩
      have g27' := g26.trans g27
      have hhd7 := g27.keep _ _ hdp hhd6
      refine ⟨_, rfl, hd, _, 2, 2, rfl, rfl, hhd7, rfl, ?_⟩
      walk_at "rd"
      have w62 : (tx s2.w).length ≤ 62 := by rw [tx_len]; omega
      refine ⟨_, rfl, ix_lst upd_same (at_ofA (j := 0) rfl rfl) ⟨_, _, rfl, rfl, Nat.le_trans (show (tx s2.w).length + 1 ≤ 100 by omega) (by decide), ?_⟩⟩
      refine ⟨_, rfl, hd, _, 0, 0, rfl, rfl, upd_same, rfl, ?_⟩
      rw [upd_upd]
      have e8 : (s2.vs.set 2 (V.str (tx wd2))).set 0 (V.str (tx s2.w ++ "k")) = (Sh.vs ⟨s2.w ++ [107], s2.n, wd2⟩) := by
        show [V.str (tx s2.w ++ "k"), V.int s2.n, V.str (tx wd2)] = [V.str (tx (s2.w ++ [107])), V.int s2.n, V.str (tx wd2)]
        rw [← tx_app]
        rfl
      rw [e8]
      have gs3 : GoodS ⟨s2.w ++ [107], s2.n, wd2⟩ := ⟨plain_app gs2.w (by unfold Plain; decide), by have := gs2.n; show s2.n ≤ (s2.w ++ [107]).length; rw [List.length_append]; omega, wpl2, by show wd2.length ≤ 60; omega, by show (s2.w ++ [107]).length ≤ _; rw [List.length_append]; show s2.w.length + 1 ≤ 1000000; omega⟩
      have sl3 : (Sh.mk (s2.w ++ [107]) s2.n wd2).w.length ≤ 60 + (i2 + 1) := by
        show (s2.w ++ [107]).length ≤ _
        rw [List.length_append]
        show s2.w.length + 1 ≤ _
        omega
      generalize (Sh.mk (s2.w ++ [107]) s2.n wd2) = s3 at *
      have hhd8 := upd_same (H := H7) (a := hd) (o := .lst s3.vs)
      have hr8 : (upd H7 hd (.lst s3.vs)) r = some (.lst zs) := by rw [upd_ne hrd]; exact g27.keep _ _ hrp hr6
      have g28 : Go p H1 (upd H7 hd (.lst s3.vs)) := go_mut g27' hd1 hdp
      have rk8 : Paired (KeyLs (Off p r hd) (upd H7 hd (.lst s3.vs))) zs ms := keyls_mv (fun c o h1 h2 h3 hc => by rw [upd_ne h3]; exact g27.keep _ _ h1 hc) rk6
      generalize upd H7 hd (.lst s3.vs) = H8 at *
      clear hhd6 hr6 rk6 g26 g27 hhd7
      walk_at "rd"
      have hzl : zs.length = ms.length := prd_len rk8
      refine lc_lst ?_
      walk_at "rd"
      refine ⟨_, rfl, r, rfl, ⟨_, SqL.of hr8⟩, fun D nD => ?_⟩
      have hDp := g28.spr.ne nD
      have hDr : D ≠ r := fun z => by rw [z, hr8] at nD; cases nD
      have hDd : D ≠ hd := fun z => by rw [z, hhd8] at nD; cases nD
      refine LcGo.list (a := r) (xs := zs) (fun j H' => Same H8 H' ∧ ∃ ys, H' D = some (.lst ys) ∧ ys.length = j ∧ Paired (KeyT D H') ys (ms.take j))
        ⟨same_upd nD, [], upd_same, rfl, .nil⟩ (fun j H' _ h => SqL.of (h.1 _ _ hr8)) ?_ ?_
      · rintro j x H' hx ⟨s9, ys, hD, hyl, hys⟩
        obtain ⟨k, hk, c, rfl, hc1, hc2⟩ := prd_at rk8 hx
        have hjl' := (List.getElem?_eq_some_iff.mp hk).1
        walk_at "rd"
        refine ⟨rfl, _, rfl, c, _, rfl, .inl ⟨SqL.of (s9 _ _ hc2), fun d nd => ?_⟩⟩
        have hdD : d ≠ D := fun z => by rw [z, hD] at nd; cases nd
        refine ⟨ys, by rw [upd_ne hdD.symm]; exact hD, Nat.lt_of_le_of_lt (show ys.length ≤ 100 by omega) (by decide), ?_, ys ++ [.ref d], upd_same, by rw [List.length_append, hyl]; rfl, ?_⟩
        · exact same_mut (s9.trans (same_upd nd)) nD
        · have e4 : ms.take (j + 1) = ms.take j ++ [k] := by rw [List.take_add_one, hk]; rfl
          rw [e4]
          refine prd_app (keyT_mv (fun b o hb e => ?_) hys) (.cons ⟨d, rfl, hdD, by rw [upd_ne hdD, upd_same]⟩ .nil)
          rw [upd_ne hb, upd_ne (fun z => by rw [z, nd] at e; cases e)]
          exact e
      · rintro H9' ⟨s9, ys, hD, hyl, hys⟩
        rw [hzl, List.take_length] at hys
        have hmw : hwt ms ≤ 60 * ms.length := hwt_le fun k hk => (hjs6 k hk).2
        have g29 := g28.same s9
        refine ⟨_, rfl, .ref D, ms, rfl, hand_ts hD hys, fun k hk => (hjs6 k hk).1, by omega, by omega, fun H10 s10 => ⟨_, _, rfl, rfl, _, rfl, ?_⟩⟩
        have s8A := s9.trans s10
        have fin : ∀ H', Same H8 H' → Go p H1 H' ∧ H' hd = some (.lst (Sh.vs s3)) ∧ GoodS s3 ∧ s3.w.length ≤ 60 + (i2 + 1) ∧ H' r = some (.lst zs) ∧ Paired (KeyLs (Off p r hd) H') zs ms ∧ WtOk ms ∧ ms.length ≤ 60 + (i2 + 1) := fun H' s' =>
          ⟨g28.same s', s' _ _ hhd8, gs3, sl3, s' _ _ hr8, keyls_mv (fun c o _ _ _ hc => s' _ _ hc) rk8, hjs6, hjl6⟩
        by_cases hw60 : hwt ms ≤ 60
        · rw [decide_eq_true (show ((hwt ms : Nat) : Int) ≤ 60 by omega)]
          refine iteY rfl ⟨_, rfl, hd, s3.vs, rfl, .inl ⟨SqL.of (s8A _ _ hhd8), fun ta nta => ?_⟩⟩
          have sT := same_upd (o := .tup s3.vs) nta
          have s8B := s8A.trans sT
          refine ⟨_, rfl, _, rfl, _, rfl, ta, .ref D, .ref hd, .ref r, s3, ms, 3, rfl, upd_same, (hand_ts (K := K) hD hys).same (s10.trans sT), shL_of (s8B _ _ hhd8), (hand_ls (K := K) hr8 rk8).same s8B, gs3, by omega, ⟨fun k hk => (hjs6 k hk).1, hw60⟩, by decide, fun H11 s11 => ⟨_, rfl, iteN rfl ?_⟩⟩
          exact ⟨_, _, _, _, _, _, _, _, s3, ms, zs, rfl, fin _ (s8B.trans s11)⟩
        · rw [decide_eq_false (show ¬ ((hwt ms : Nat) : Int) ≤ 60 by omega)]
          refine iteN rfl ?_
          exact ⟨_, _, _, _, _, _, _, _, s3, ms, zs, rfl, fin _ s8A⟩
    · rintro σ H2 ⟨y8, y9, y10, y11, y12, y13, y14, y15, s2, js, xs, rfl, g22, _⟩
      exact ⟨_, _, _, _, _, _, _, _, _, _, _, _, _, _, rfl, g22⟩
  · rintro σ H2 ⟨y2, y3, y4, y5, y6, y7, y8, y9, y10, y11, y12, y13, y14, y15, rfl, g2⟩
    walk_at "rd"
    refine ⟨by show 2 ≤ sizeLine; decide, fun t1 nt1 => ?_⟩
    have st1 := same_upd (o := .tup [V.str "write", V.str "ab"]) nt1
    have kt1 := upd_same (H := H2) (a := t1) (o := .tup [V.str "write", V.str "ab"])
    have gt1 := go_new (o := .tup [V.str "write", V.str "ab"]) g2 nt1
    have pt1 := g2.spr.ne nt1
    generalize upd H2 t1 (.tup [V.str "write", V.str "ab"]) = A0 at *
    refine ⟨by show 2 ≤ sizeLine; decide, fun t2 nt2 => ?_⟩
    have st2 := same_upd (o := .tup [V.str "left", V.int 1]) nt2
    have kt2 := upd_same (H := A0) (a := t2) (o := .tup [V.str "left", V.int 1])
    have gt2 := go_new (o := .tup [V.str "left", V.int 1]) gt1 nt2
    have pt2 := gt1.spr.ne nt2
    have kt1 := st2 _ _ kt1
    generalize upd A0 t2 (.tup [V.str "left", V.int 1]) = A1 at *
    refine ⟨by show 2 ≤ sizeLine; decide, fun l1 nl1 => ?_⟩
    have sl1 := same_upd (o := .lst [V.ref t1, V.ref t2]) nl1
    have kl1 := upd_same (H := A1) (a := l1) (o := .lst [V.ref t1, V.ref t2])
    have gl1 := go_new (o := .lst [V.ref t1, V.ref t2]) gt2 nl1
    have pl1 := gt2.spr.ne nl1
    have kt1 := sl1 _ _ kt1
    have kt2 := sl1 _ _ kt2
    generalize upd A1 l1 (.lst [V.ref t1, V.ref t2]) = A2 at *
    refine ⟨by show 2 ≤ sizeLine; decide, fun t3 nt3 => ?_⟩
    have st3 := same_upd (o := .tup [V.str "cut", V.int 1]) nt3
    have kt3 := upd_same (H := A2) (a := t3) (o := .tup [V.str "cut", V.int 1])
    have gt3 := go_new (o := .tup [V.str "cut", V.int 1]) gl1 nt3
    have pt3 := gl1.spr.ne nt3
    have kt1 := st3 _ _ kt1
    have kt2 := st3 _ _ kt2
    have kl1 := st3 _ _ kl1
    generalize upd A2 t3 (.tup [V.str "cut", V.int 1]) = A3 at *
    refine ⟨by show 2 ≤ sizeLine; decide, fun t4 nt4 => ?_⟩
    have st4 := same_upd (o := .tup [V.str "right", V.int 2]) nt4
    have kt4 := upd_same (H := A3) (a := t4) (o := .tup [V.str "right", V.int 2])
    have gt4 := go_new (o := .tup [V.str "right", V.int 2]) gt3 nt4
    have pt4 := gt3.spr.ne nt4
    have kt1 := st4 _ _ kt1
    have kt2 := st4 _ _ kt2
    have kl1 := st4 _ _ kl1
    have kt3 := st4 _ _ kt3
    generalize upd A3 t4 (.tup [V.str "right", V.int 2]) = A4 at *
    refine ⟨by show 1 ≤ sizeLine; decide, fun t5 nt5 => ?_⟩
    have st5 := same_upd (o := .tup [V.str "paste"]) nt5
    have kt5 := upd_same (H := A4) (a := t5) (o := .tup [V.str "paste"])
    have gt5 := go_new (o := .tup [V.str "paste"]) gt4 nt5
    have pt5 := gt4.spr.ne nt5
    have kt1 := st5 _ _ kt1
    have kt2 := st5 _ _ kt2
    have kl1 := st5 _ _ kl1
    have kt3 := st5 _ _ kt3
    have kt4 := st5 _ _ kt4
    generalize upd A4 t5 (.tup [V.str "paste"]) = A5 at *
    refine ⟨by show 3 ≤ sizeLine; decide, fun l2 nl2 => ?_⟩
    have sl2 := same_upd (o := .lst [V.ref t3, V.ref t4, V.ref t5]) nl2
    have kl2 := upd_same (H := A5) (a := l2) (o := .lst [V.ref t3, V.ref t4, V.ref t5])
    have gl2 := go_new (o := .lst [V.ref t3, V.ref t4, V.ref t5]) gt5 nl2
    have pl2 := gt5.spr.ne nl2
    have kt1 := sl2 _ _ kt1
    have kt2 := sl2 _ _ kt2
    have kl1 := sl2 _ _ kl1
    have kt3 := sl2 _ _ kt3
    have kt4 := sl2 _ _ kt4
    have kt5 := sl2 _ _ kt5
    generalize upd A5 l2 (.lst [V.ref t3, V.ref t4, V.ref t5]) = A6 at *
    refine ⟨by show 2 ≤ sizeLine; decide, fun t6 nt6 => ?_⟩
    have st6 := same_upd (o := .tup [V.str "strike", V.int 1]) nt6
    have kt6 := upd_same (H := A6) (a := t6) (o := .tup [V.str "strike", V.int 1])
    have gt6 := go_new (o := .tup [V.str "strike", V.int 1]) gl2 nt6
    have pt6 := gl2.spr.ne nt6
    have kt1 := st6 _ _ kt1
    have kt2 := st6 _ _ kt2
    have kl1 := st6 _ _ kl1
    have kt3 := st6 _ _ kt3
    have kt4 := st6 _ _ kt4
    have kt5 := st6 _ _ kt5
    have kl2 := st6 _ _ kl2
    generalize upd A6 t6 (.tup [V.str "strike", V.int 1]) = A7 at *
    refine ⟨by show 1 ≤ sizeLine; decide, fun l3 nl3 => ?_⟩
    have sl3 := same_upd (o := .lst [V.ref t6]) nl3
    have kl3 := upd_same (H := A7) (a := l3) (o := .lst [V.ref t6])
    have gl3 := go_new (o := .lst [V.ref t6]) gt6 nl3
    have pl3 := gt6.spr.ne nl3
    have kt1 := sl3 _ _ kt1
    have kt2 := sl3 _ _ kt2
    have kl1 := sl3 _ _ kl1
    have kt3 := sl3 _ _ kt3
    have kt4 := sl3 _ _ kt4
    have kt5 := sl3 _ _ kt5
    have kl2 := sl3 _ _ kl2
    have kt6 := sl3 _ _ kt6
    generalize upd A7 l3 (.lst [V.ref t6]) = A8 at *
    refine ⟨by show 3 ≤ sizeLine; decide, fun L nL => ?_⟩
    have sL := same_upd (o := .lst [V.ref l1, V.ref l2, V.ref l3]) nL
    have kL := upd_same (H := A8) (a := L) (o := .lst [V.ref l1, V.ref l2, V.ref l3])
    have gL := go_new (o := .lst [V.ref l1, V.ref l2, V.ref l3]) gl3 nL
    have pL := gl3.spr.ne nL
    have kt1 := sL _ _ kt1
    have kt2 := sL _ _ kt2
    have kl1 := sL _ _ kl1
    have kt3 := sL _ _ kt3
    have kt4 := sL _ _ kt4
    have kt5 := sL _ _ kt5
    have kl2 := sL _ _ kl2
    have kt6 := sL _ _ kt6
    have kl3 := sL _ _ kl3
    generalize upd A8 L (.lst [V.ref l1, V.ref l2, V.ref l3]) = A9 at *
    refine ⟨_, rfl, _, rfl, p, 3, rfl, gL.spr, by decide, by decide, fun H3 k1 g3 k10 k1l => ?_⟩
    obtain ⟨v1, hv1, hv1e⟩ := sm k1 k10 k1l (.ref l1) (.ref l2) (.ref l3)
    refine ix_lst (g3.keep _ _ pL kL) hv1 ?_
    have g3' := gL.trans g3
    obtain ⟨lx, js, rfl, hLx, gj, gg⟩ : ∃ lx js, v1 = .ref lx ∧ HandL p H3 lx js ∧ GoodH js ∧ gains js ≤ 60 := by
      rcases hv1e with rfl | rfl | rfl
      · exact ⟨l1, [.write [97, 98], .left 1], rfl, HandL.go g3 ⟨pl1, _, kl1, .cons ⟨t1, rfl, pt1, kt1⟩ (.cons ⟨t2, rfl, pt2, kt2⟩ .nil)⟩, ⟨fun k hk => by simp only [List.mem_cons, List.not_mem_nil, or_false] at hk; rcases hk with rfl | rfl; exact ⟨by decide, by decide, by unfold Plain; decide⟩; exact Nat.le_refl 1, by decide⟩, by decide⟩
      · exact ⟨l2, [.cut 1, .right 2, .paste], rfl, HandL.go g3 ⟨pl2, _, kl2, .cons ⟨t3, rfl, pt3, kt3⟩ (.cons ⟨t4, rfl, pt4, kt4⟩ (.cons ⟨t5, rfl, pt5, kt5⟩ .nil))⟩, ⟨fun k hk => by simp only [List.mem_cons, List.not_mem_nil, or_false] at hk; rcases hk with rfl | rfl | rfl; exact Nat.le_refl 1; exact (by decide : 1 ≤ 2); exact trivial, by decide⟩, by decide⟩
      · exact ⟨l3, [.strike 1], rfl, HandL.go g3 ⟨pl3, _, kl3, .cons ⟨t6, rfl, pt6, kt6⟩ .nil⟩, ⟨fun k hk => by simp only [List.mem_cons, List.not_mem_nil, or_false] at hk; subst hk; exact Nat.le_refl 1, by decide⟩, by decide⟩
    clear kt1 kt2 kt3 kt4 kt5 kt6 kl1 kl2 kl3 kL hv1e
    refine ⟨_, rfl, p, 60, rfl, g3'.spr, by decide, by decide, fun H4 sa sh g4 sap hsa gs swl => ?_⟩
    have g4' := g3'.trans g4
    have hL4 := hLx.go g4
    have hz : sh.w.length + gains js * 300 ≤ 900000 := by omega
    dsimp only [tCallN]
    walk_at "rd"
    refine ⟨_, rfl, _, rfl, rfl, rfl, .ref sa, .ref lx, sh, js, 300, rfl, shT_of hsa, hL4.at, gs, gj, by decide, by omega, by omega, fun p1 H5 s5 hp1 => ?_⟩
    refine ⟨_, rfl, _, rfl, sa, .ref lx, sh, js, 300, rfl, s5 _ _ hsa, hL4.at.same s5, gs, gj, by decide, by omega, fun p2 H6 s6 hp2 => ?_⟩
    refine neS (pressed_goodG gs gj 300 (by omega)).1 (s6 _ _ hp1) hp2 ⟨_, rfl, iteN rfl ?_⟩
    have g6 := (g4'.same s5).same s6
    have hsa6 := s6 _ _ (s5 _ _ hsa)
    clear hp1 hp2
    refine ⟨_, rfl, p, 9, 20, rfl, g6.spr, by decide, by decide, by decide, by decide, fun H7 ha ks g7 nha hL hok hwt60 hkl => ?_⟩
    have g7' := g6.trans g7
    have hsa7 := g7.keep _ _ sap hsa6
    obtain ⟨hap, xs, hxs, hpx⟩ := id hL
    have hxl : xs.length = ks.length := prd_len hpx
    refine lc_rng1 ?_
    walk_at "rd"
    refine ⟨_, rfl, len_row (.inl (SqL.of hxs)) ⟨_, rfl, by omega, by omega, fun D nD => ?_⟩⟩
    refine LcGo.range (fun i H' => Same H7 H' ∧ ∃ ws : List Int, H' D = some (.lst (ws.map V.int)) ∧ ws.length ≤ i) ⟨same_upd nD, [], upd_same, Nat.le_refl _⟩ ?_ ?_
    · rintro i H8 hi ⟨s8, ws, hD, hwl⟩
      have hi : i < xs.length := by omega
      obtain ⟨x, hx⟩ : ∃ x, xs[i]? = some x := ⟨_, List.getElem?_eq_getElem hi⟩
      obtain ⟨k, hk, b, rfl, hbp, hb⟩ := prd_at hpx hx
      walk_at "rd"
      refine ⟨rfl, _, rfl, _, rfl, ix_lst (s8 _ _ hxs) (at_ofA (j := i) (by omega) hx) (ix_row (.inr (SqT.of (s8 _ _ hb))) (at_ofA (j := 0) rfl (vs_0 k)) ⟨rfl, _, rfl, ite2 (fun _ => ?_) (fun _ => ?_)⟩)⟩
      · refine ⟨_, rfl, _, hD, Nat.lt_of_le_of_lt (show (ws.map V.int).length ≤ 9 by rw [List.length_map]; omega) (by decide), same_mut s8 nD, ws ++ [0 + (i : Int)], ?_, by rw [List.length_append]; exact Nat.succ_le_succ hwl⟩
        rw [upd_same, List.map_append]
        rfl
      · exact ⟨s8, ws, hD, by omega⟩
    rintro H8 ⟨s8, ws, hDw, hwl⟩
    have g8 := g7'.same s8
    refine lc_rng1 ?_
    walk_at "rd"
    refine ⟨_, rfl, len_row (.inl (SqL.of (s8 _ _ hxs))) ⟨_, rfl, by omega, by omega, fun D2 nD2 => ?_⟩⟩
    have hD2p := g8.spr.ne nD2
    refine LcGo.range (fun i H' => Same H8 H' ∧ ∃ ys js2, H' D2 = some (.lst ys) ∧ ys.length ≤ i ∧ Paired (KeyT p H7) ys js2 ∧ (∀ k ∈ js2, k.ok) ∧ hwt js2 ≤ hwt (ks.take i)) ⟨same_upd nD2, [], [], upd_same, Nat.le_refl _, .nil, (fun k hk => nomatch hk), Nat.zero_le _⟩ ?_ ?_
    · rintro i H9 hi ⟨s9, ys, js2, hD2, hyl, hys, hjok, hjw⟩
      have hi : i < xs.length := by omega
      obtain ⟨x, hx⟩ : ∃ x, xs[i]? = some x := ⟨_, List.getElem?_eq_getElem hi⟩
      obtain ⟨k, hk, b, rfl, hbp, hb⟩ := prd_at hpx hx
      have e4 : hwt (ks.take (i + 1)) = hwt (ks.take i) + k.wt := by
        rw [List.take_add_one, hk, hwt_app]
        show _ + hwt [k] = _
        rw [hwt_cons]
        rfl
      walk_at "rd"
      refine ⟨rfl, _, rfl, _, rfl, _, rfl, D, _, rfl, SqL.of (s9 _ _ hDw), fun e ne => ⟨e, _, rfl, .inl (SqL.of upd_same), rfl, cut_flat _ _ _, _, rfl, ite2 (fun _ => ?_) (fun _ => ?_)⟩⟩
      · have s10 := s9.trans (same_upd (o := .lst (cutV (ws.map V.int) (some 2) none)) ne)
        have hD2' := same_upd (o := .lst (cutV (ws.map V.int) (some 2) none)) ne _ _ hD2
        refine ⟨_, rfl, _, rfl, ix_lst (s10 _ _ (s8 _ _ hxs)) (at_ofA (j := i) (by omega) hx) ⟨ys, hD2', Nat.lt_of_le_of_lt (show ys.length ≤ 9 by omega) (by decide), same_mut s10 nD2, ys ++ [.ref b], js2 ++ [k], upd_same, by rw [List.length_append]; exact Nat.succ_le_succ hyl, prd_app hys (.cons ⟨b, rfl, hbp, hb⟩ .nil), ?_, ?_⟩⟩
        · intro k' hk'
          rcases List.mem_append.mp hk' with h | h
          · exact hjok k' h
          · rw [List.mem_singleton.mp h]
            exact hok k (List.mem_of_getElem? hk)
        · rw [hwt_app, e4, hwt_cons]
          show hwt js2 + (k.wt + 0) ≤ _
          omega
      · exact ⟨s9.trans (same_upd ne), ys, js2, same_upd ne _ _ hD2, by omega, hys, hjok, by omega⟩
    rintro H9 ⟨s9, ys, js2, hD2, hyl, hys, hjok, hjw⟩
    have g9 := g8.same s9
    have s79 := s8.trans s9
    have hw60 : hwt js2 ≤ 60 := Nat.le_trans hjw (Nat.le_trans (hwt_take ks _) hwt60)
    have gj2 : GoodH js2 := ⟨hjok, hw60⟩
    have hjl2 : ys.length = js2.length := prd_len hys
    have hgl := gains_len (ks := js2) fun k hk => Nat.le_trans (hwt_mem hk) hw60
    have hg540 : gains js2 ≤ 540 := by omega
    have hLD : HandL p H9 D2 js2 := ⟨hD2p, ys, hD2, prd_same (fun _ _ ⟨b, e, hb, hk⟩ => ⟨b, e, hb, s79 _ _ hk⟩) hys⟩
    refine ⟨_, rfl, p, 101, rfl, g9.spr, by decide, by decide, fun H10 d g10 d0 d101 => ⟨_, _, rfl, rfl, ?_⟩⟩
    obtain ⟨d, rfl⟩ := Int.eq_ofNat_of_zero_le d0
    have eL : (200 : Int) + (d : Int) = ((200 + d : Nat) : Int) := by omega
    have hgm : gains js2 * (200 + d) ≤ 540 * 300 := Nat.mul_le_mul hg540 (by omega)
    have hsa10 := g10.keep _ _ sap (s79 _ _ hsa7)
    have hL10 := hLD.go g10
    refine ⟨_, rfl, _, rfl, _, rfl, rfl, rfl, .ref sa, .ref D2, sh, js2, 200 + d, ?_, shT_of hsa10, hL10.at, gs, gj2, by omega, by omega, by omega, fun p1 H11 s11 hp1 => ?_⟩
    · show [V.ref sa, V.ref D2, V.int (200 + (d : Int))] = _
      rw [eL]
    refine ⟨_, rfl, _, rfl, _, rfl, sa, .ref D2, sh, js2, 200 + d, ?_, s11 _ _ hsa10, hL10.at.same s11, gs, gj2, by omega, by omega, fun p2 H12 s12 hp2 => ?_⟩
    · show [V.ref sa, V.ref D2, V.int (200 + (d : Int))] = _
      rw [eL]
    exact eqS (pressed_goodG gs gj2 (200 + d) (by omega)).1 (s12 _ _ hp1) hp2 (q _)

end
theorem bd_press {K : PySem.W.Frag} {f : Addr} {fd : FuncData} (F : FunD K "press" "press" (defArgs s_press) (defBody s_press) (defScope s_press) [] [("times", .int 1)] f fd) : ∃ ds, Vals [V.int 1] ds ∧ Binds K fd ["sheet", "hand", "times"] ds :=
  F.binds0 2 (by decide) rfl fun D doc pm an cdv ct us ks hu hk => match us, ks, hu, hk with | [_, _], [_], _, _ => ⟨_, _, _, _, _, _, rfl, rfl, rfl⟩
theorem kb_press {K : PySem.W.Frag} {f : Addr} {fd : FuncData} (F : FunD K "press" "press" (defArgs s_press) (defBody s_press) (defScope s_press) [] [("times", .int 1)] f fd) : KBn K fd ["sheet", "hand", "times"] 2 ["times"] (fun us ws => us ++ ws) (fun vs zs => vs ++ zs) := by
  obtain ⟨oc, od, dV, kV, doc, pm, an, cdv, ct, osl, rfl, lk, hcd, hD, hK⟩ := F.ex
  rcases hD with ⟨_, rfl⟩ | ⟨e, _⟩
  · exact ⟨fun s us ws _ hu hw => match us, ws, hu, hw with | [_, _], [_], _, _ => .of_eq rfl, fun r1 r2 => r1.append r2⟩
  · exact absurd rfl e
theorem all_mk {l : PySem.W.OpenLaw} {w : World} {K : PySem.W.Frag} {h : Heap} {mg : Str → Option Value} {fa : Addr} (X : K.In h) (G : h.Ns mainGlobals mg) (hfa : mg "law" = some (.ref fa))
    {f0 : Addr} {od0 an0 : Option Addr} {sl0 : Array (Option Value)} {oc0 dc0 pm0 cd0 ct0 : Value} {kV0 : Value}
    {f1 : Addr} {od1 an1 : Option Addr} {sl1 : Array (Option Value)} {oc1 dc1 pm1 cd1 ct1 : Value} {kV1 : Value}
    {f2 : Addr} {od2 an2 : Option Addr} {sl2 : Array (Option Value)} {oc2 dc2 pm2 cd2 ct2 : Value} {kV2 : Value}
    {f3 : Addr} {od3 an3 : Option Addr} {sl3 : Array (Option Value)} {oc3 dc3 pm3 cd3 ct3 : Value} {kV3 : Value}
    {f4 : Addr} {od4 an4 : Option Addr} {sl4 : Array (Option Value)} {oc4 dc4 pm4 cd4 ct4 : Value} {kV4 : Value}
    {f5 : Addr} {od5 an5 : Option Addr} {sl5 : Array (Option Value)} {oc5 dc5 pm5 cd5 ct5 : Value} {kV5 : Value}
    {f6 : Addr} {od6 an6 : Option Addr} {sl6 : Array (Option Value)} {oc6 dc6 pm6 cd6 ct6 : Value} {kV6 : Value}
    {f7 : Addr} {od7 an7 : Option Addr} {sl7 : Array (Option Value)} {oc7 dc7 pm7 cd7 ct7 : Value} {kV7 : Value}
    {f8 : Addr} {od8 an8 : Option Addr} {sl8 : Array (Option Value)} {oc8 dc8 pm8 cd8 ct8 : Value} {kV8 : Value}
    {f9 : Addr} {od9 an9 : Option Addr} {sl9 : Array (Option Value)} {oc9 dc9 pm9 cd9 ct9 : Value} {kV9 : Value}
    {f10 : Addr} {od10 an10 : Option Addr} {sl10 : Array (Option Value)} {oc10 dc10 pm10 cd10 ct10 : Value} {kV10 : Value}
    {f11 : Addr} {od11 an11 : Option Addr} {sl11 : Array (Option Value)} {oc11 dc11 pm11 cd11 ct11 : Value} {kV11 : Value}
    {f12 : Addr} {od12 an12 : Option Addr} {sl12 : Array (Option Value)} {oc12 dc12 pm12 cd12 ct12 : Value} {kV12 : Value}
    {f13 : Addr} {od13 an13 : Option Addr} {sl13 : Array (Option Value)} {oc13 dc13 pm13 cd13 ct13 : Value} {kV13 : Value}
    {f14 : Addr} {od14 an14 : Option Addr} {sl14 : Array (Option Value)} {oc14 dc14 pm14 cd14 ct14 : Value} {kV14 : Value}
    {f15 : Addr} {od15 an15 : Option Addr} {sl15 : Array (Option Value)} {oc15 dc15 pm15 cd15 ct15 : Value} {kV15 : Value}
    {f16 : Addr} {od16 an16 : Option Addr} {sl16 : Array (Option Value)} {oc16 dc16 pm16 cd16 ct16 : Value} {D16 : Addr}
    {tk16 : Tok}
    {f17 : Addr} {od17 an17 : Option Addr} {sl17 : Array (Option Value)} {oc17 dc17 pm17 cd17 ct17 : Value} {kV17 : Value}
    {f18 : Addr} {od18 an18 : Option Addr} {sl18 : Array (Option Value)} {oc18 dc18 pm18 cd18 ct18 : Value} {kV18 : Value}
    {f19 : Addr} {od19 an19 : Option Addr} {sl19 : Array (Option Value)} {oc19 dc19 pm19 cd19 ct19 : Value} {kV19 : Value}
    {f20 : Addr} {od20 an20 : Option Addr} {sl20 : Array (Option Value)} {oc20 dc20 pm20 cd20 ct20 : Value} {kV20 : Value}
    {f21 : Addr} {od21 an21 : Option Addr} {sl21 : Array (Option Value)} {oc21 dc21 pm21 cd21 ct21 : Value} {kV21 : Value}
    {f22 : Addr} {od22 an22 : Option Addr} {sl22 : Array (Option Value)} {oc22 dc22 pm22 cd22 ct22 : Value} {kV22 : Value}
    {f23 : Addr} {od23 an23 : Option Addr} {sl23 : Array (Option Value)} {oc23 dc23 pm23 cd23 ct23 : Value} {kV23 : Value}
    {f24 : Addr} {od24 an24 : Option Addr} {sl24 : Array (Option Value)} {oc24 dc24 pm24 cd24 ct24 : Value} {kV24 : Value}
    {f25 : Addr} {od25 an25 : Option Addr} {sl25 : Array (Option Value)} {oc25 dc25 pm25 cd25 ct25 : Value} {kV25 : Value}
    {f26 : Addr} {od26 an26 : Option Addr} {sl26 : Array (Option Value)} {oc26 dc26 pm26 cd26 ct26 : Value} {kV26 : Value}
    {f27 : Addr} {od27 an27 : Option Addr} {sl27 : Array (Option Value)} {oc27 dc27 pm27 cd27 ct27 : Value} {kV27 : Value}
    {f28 : Addr} {od28 an28 : Option Addr} {sl28 : Array (Option Value)} {oc28 dc28 pm28 cd28 ct28 : Value} {kV28 : Value}
    {f29 : Addr} {od29 an29 : Option Addr} {sl29 : Array (Option Value)} {oc29 dc29 pm29 cd29 ct29 : Value} {kV29 : Value}
    {t_ALPHABET : Tok}
    {t_HEAVIEST : Tok}
    {t_LONGEST_WORD : Tok}
    {t_MOST_TIMES : Tok}
    {d_SIDES : Addr} {es_SIDES : Array DictEntry} {n_SIDES : Nat}
    (a0 : PySem.W.nsIn K mainGlobals "is_row" = some (some (.ref f0))) (l0 : K.lookup f0 = some ⟨oc0, od0, .func (PySem.W.fnOf "is_row" "is_row" (defArgs s_is_row) (defBody s_is_row) (defScope s_is_row) .none kV0 dc0 pm0 an0 cd0 ct0), sl0⟩) (c0 : PySem.W.codeIn K cd0 "is_row" = true) (k0 : PySem.W.keepIn K (.ref f0) = true)
    (a1 : PySem.W.nsIn K mainGlobals "is_whole" = some (some (.ref f1))) (l1 : K.lookup f1 = some ⟨oc1, od1, .func (PySem.W.fnOf "is_whole" "is_whole" (defArgs s_is_whole) (defBody s_is_whole) (defScope s_is_whole) .none kV1 dc1 pm1 an1 cd1 ct1), sl1⟩) (c1 : PySem.W.codeIn K cd1 "is_whole" = true) (k1 : PySem.W.keepIn K (.ref f1) = true)
    (a2 : PySem.W.nsIn K mainGlobals "is_within" = some (some (.ref f2))) (l2 : K.lookup f2 = some ⟨oc2, od2, .func (PySem.W.fnOf "is_within" "is_within" (defArgs s_is_within) (defBody s_is_within) (defScope s_is_within) .none kV2 dc2 pm2 an2 cd2 ct2), sl2⟩) (c2 : PySem.W.codeIn K cd2 "is_within" = true) (k2 : PySem.W.keepIn K (.ref f2) = true)
    (a3 : PySem.W.nsIn K mainGlobals "is_plain" = some (some (.ref f3))) (l3 : K.lookup f3 = some ⟨oc3, od3, .func (PySem.W.fnOf "is_plain" "is_plain" (defArgs s_is_plain) (defBody s_is_plain) (defScope s_is_plain) .none kV3 dc3 pm3 an3 cd3 ct3), sl3⟩) (c3 : PySem.W.codeIn K cd3 "is_plain" = true) (k3 : PySem.W.keepIn K (.ref f3) = true)
    (a4 : PySem.W.nsIn K mainGlobals "is_clip" = some (some (.ref f4))) (l4 : K.lookup f4 = some ⟨oc4, od4, .func (PySem.W.fnOf "is_clip" "is_clip" (defArgs s_is_clip) (defBody s_is_clip) (defScope s_is_clip) .none kV4 dc4 pm4 an4 cd4 ct4), sl4⟩) (c4 : PySem.W.codeIn K cd4 "is_clip" = true) (k4 : PySem.W.keepIn K (.ref f4) = true)
    (a5 : PySem.W.nsIn K mainGlobals "is_word" = some (some (.ref f5))) (l5 : K.lookup f5 = some ⟨oc5, od5, .func (PySem.W.fnOf "is_word" "is_word" (defArgs s_is_word) (defBody s_is_word) (defScope s_is_word) .none kV5 dc5 pm5 an5 cd5 ct5), sl5⟩) (c5 : PySem.W.codeIn K cd5 "is_word" = true) (k5 : PySem.W.keepIn K (.ref f5) = true)
    (a6 : PySem.W.nsIn K mainGlobals "is_key" = some (some (.ref f6))) (l6 : K.lookup f6 = some ⟨oc6, od6, .func (PySem.W.fnOf "is_key" "is_key" (defArgs s_is_key) (defBody s_is_key) (defScope s_is_key) .none kV6 dc6 pm6 an6 cd6 ct6), sl6⟩) (c6 : PySem.W.codeIn K cd6 "is_key" = true) (k6 : PySem.W.keepIn K (.ref f6) = true)
    (a7 : PySem.W.nsIn K mainGlobals "key_weight" = some (some (.ref f7))) (l7 : K.lookup f7 = some ⟨oc7, od7, .func (PySem.W.fnOf "key_weight" "key_weight" (defArgs s_key_weight) (defBody s_key_weight) (defScope s_key_weight) .none kV7 dc7 pm7 an7 cd7 ct7), sl7⟩) (c7 : PySem.W.codeIn K cd7 "key_weight" = true) (k7 : PySem.W.keepIn K (.ref f7) = true)
    (a8 : PySem.W.nsIn K mainGlobals "weigh" = some (some (.ref f8))) (l8 : K.lookup f8 = some ⟨oc8, od8, .func (PySem.W.fnOf "weigh" "weigh" (defArgs s_weigh) (defBody s_weigh) (defScope s_weigh) .none kV8 dc8 pm8 an8 cd8 ct8), sl8⟩) (c8 : PySem.W.codeIn K cd8 "weigh" = true) (k8 : PySem.W.keepIn K (.ref f8) = true)
    (a9 : PySem.W.nsIn K mainGlobals "is_hand" = some (some (.ref f9))) (l9 : K.lookup f9 = some ⟨oc9, od9, .func (PySem.W.fnOf "is_hand" "is_hand" (defArgs s_is_hand) (defBody s_is_hand) (defScope s_is_hand) .none kV9 dc9 pm9 an9 cd9 ct9), sl9⟩) (c9 : PySem.W.codeIn K cd9 "is_hand" = true) (k9 : PySem.W.keepIn K (.ref f9) = true)
    (a10 : PySem.W.nsIn K mainGlobals "check_hand" = some (some (.ref f10))) (l10 : K.lookup f10 = some ⟨oc10, od10, .func (PySem.W.fnOf "check_hand" "check_hand" (defArgs s_check_hand) (defBody s_check_hand) (defScope s_check_hand) .none kV10 dc10 pm10 an10 cd10 ct10), sl10⟩) (c10 : PySem.W.codeIn K cd10 "check_hand" = true) (k10 : PySem.W.keepIn K (.ref f10) = true)
    (a11 : PySem.W.nsIn K mainGlobals "is_sheet" = some (some (.ref f11))) (l11 : K.lookup f11 = some ⟨oc11, od11, .func (PySem.W.fnOf "is_sheet" "is_sheet" (defArgs s_is_sheet) (defBody s_is_sheet) (defScope s_is_sheet) .none kV11 dc11 pm11 an11 cd11 ct11), sl11⟩) (c11 : PySem.W.codeIn K cd11 "is_sheet" = true) (k11 : PySem.W.keepIn K (.ref f11) = true)
    (a12 : PySem.W.nsIn K mainGlobals "check_sheet" = some (some (.ref f12))) (l12 : K.lookup f12 = some ⟨oc12, od12, .func (PySem.W.fnOf "check_sheet" "check_sheet" (defArgs s_check_sheet) (defBody s_check_sheet) (defScope s_check_sheet) .none kV12 dc12 pm12 an12 cd12 ct12), sl12⟩) (c12 : PySem.W.codeIn K cd12 "check_sheet" = true) (k12 : PySem.W.keepIn K (.ref f12) = true)
    (a13 : PySem.W.nsIn K mainGlobals "nearest" = some (some (.ref f13))) (l13 : K.lookup f13 = some ⟨oc13, od13, .func (PySem.W.fnOf "nearest" "nearest" (defArgs s_nearest) (defBody s_nearest) (defScope s_nearest) .none kV13 dc13 pm13 an13 cd13 ct13), sl13⟩) (c13 : PySem.W.codeIn K cd13 "nearest" = true) (k13 : PySem.W.keepIn K (.ref f13) = true)
    (a14 : PySem.W.nsIn K mainGlobals "take" = some (some (.ref f14))) (l14 : K.lookup f14 = some ⟨oc14, od14, .func (PySem.W.fnOf "take" "take" (defArgs s_take) (defBody s_take) (defScope s_take) .none kV14 dc14 pm14 an14 cd14 ct14), sl14⟩) (c14 : PySem.W.codeIn K cd14 "take" = true) (k14 : PySem.W.keepIn K (.ref f14) = true)
    (a15 : PySem.W.nsIn K mainGlobals "do_key" = some (some (.ref f15))) (l15 : K.lookup f15 = some ⟨oc15, od15, .func (PySem.W.fnOf "do_key" "do_key" (defArgs s_do_key) (defBody s_do_key) (defScope s_do_key) .none kV15 dc15 pm15 an15 cd15 ct15), sl15⟩) (c15 : PySem.W.codeIn K cd15 "do_key" = true) (k15 : PySem.W.keepIn K (.ref f15) = true)
    (a16 : PySem.W.nsIn K mainGlobals "press" = some (some (.ref f16))) (l16 : K.lookup f16 = some ⟨oc16, od16, .func (PySem.W.fnOf "press" "press" (defArgs s_press) (defBody s_press) (defScope s_press) .none (.ref D16) dc16 pm16 an16 cd16 ct16), sl16⟩) (c16 : PySem.W.codeIn K cd16 "press" = true) (k16 : PySem.W.keepIn K (.ref f16) = true)
    (e16 : PySem.W.nsIn K D16 "times" = some (some (.int 1 tk16)))
    (a17 : PySem.W.nsIn K mainGlobals "_law_spring" = some (some (.ref f17))) (l17 : K.lookup f17 = some ⟨oc17, od17, .func (PySem.W.fnOf "_law_spring" "_law_spring" (defArgs s__law_spring) (defBody s__law_spring) (defScope s__law_spring) .none kV17 dc17 pm17 an17 cd17 ct17), sl17⟩) (c17 : PySem.W.codeIn K cd17 "_law_spring" = true) (k17 : PySem.W.keepIn K (.ref f17) = true)
    (a18 : PySem.W.nsIn K mainGlobals "_law_draw" = some (some (.ref f18))) (l18 : K.lookup f18 = some ⟨oc18, od18, .func (PySem.W.fnOf "_law_draw" "_law_draw" (defArgs s__law_draw) (defBody s__law_draw) (defScope s__law_draw) .none kV18 dc18 pm18 an18 cd18 ct18), sl18⟩) (c18 : PySem.W.codeIn K cd18 "_law_draw" = true) (k18 : PySem.W.keepIn K (.ref f18) = true)
    (a19 : PySem.W.nsIn K mainGlobals "_law_same" = some (some (.ref f19))) (l19 : K.lookup f19 = some ⟨oc19, od19, .func (PySem.W.fnOf "_law_same" "_law_same" (defArgs s__law_same) (defBody s__law_same) (defScope s__law_same) .none kV19 dc19 pm19 an19 cd19 ct19), sl19⟩) (c19 : PySem.W.codeIn K cd19 "_law_same" = true) (k19 : PySem.W.keepIn K (.ref f19) = true)
    (a20 : PySem.W.nsIn K mainGlobals "_law_lists" = some (some (.ref f20))) (l20 : K.lookup f20 = some ⟨oc20, od20, .func (PySem.W.fnOf "_law_lists" "_law_lists" (defArgs s__law_lists) (defBody s__law_lists) (defScope s__law_lists) .none kV20 dc20 pm20 an20 cd20 ct20), sl20⟩) (c20 : PySem.W.codeIn K cd20 "_law_lists" = true) (k20 : PySem.W.keepIn K (.ref f20) = true)
    (a21 : PySem.W.nsIn K mainGlobals "_law_handed" = some (some (.ref f21))) (l21 : K.lookup f21 = some ⟨oc21, od21, .func (PySem.W.fnOf "_law_handed" "_law_handed" (defArgs s__law_handed) (defBody s__law_handed) (defScope s__law_handed) .none kV21 dc21 pm21 an21 cd21 ct21), sl21⟩) (c21 : PySem.W.codeIn K cd21 "_law_handed" = true) (k21 : PySem.W.keepIn K (.ref f21) = true)
    (a22 : PySem.W.nsIn K mainGlobals "_law_word" = some (some (.ref f22))) (l22 : K.lookup f22 = some ⟨oc22, od22, .func (PySem.W.fnOf "_law_word" "_law_word" (defArgs s__law_word) (defBody s__law_word) (defScope s__law_word) .none kV22 dc22 pm22 an22 cd22 ct22), sl22⟩) (c22 : PySem.W.codeIn K cd22 "_law_word" = true) (k22 : PySem.W.keepIn K (.ref f22) = true)
    (a23 : PySem.W.nsIn K mainGlobals "_law_hand" = some (some (.ref f23))) (l23 : K.lookup f23 = some ⟨oc23, od23, .func (PySem.W.fnOf "_law_hand" "_law_hand" (defArgs s__law_hand) (defBody s__law_hand) (defScope s__law_hand) .none kV23 dc23 pm23 an23 cd23 ct23), sl23⟩) (c23 : PySem.W.codeIn K cd23 "_law_hand" = true) (k23 : PySem.W.keepIn K (.ref f23) = true)
    (a24 : PySem.W.nsIn K mainGlobals "_law_key" = some (some (.ref f24))) (l24 : K.lookup f24 = some ⟨oc24, od24, .func (PySem.W.fnOf "_law_key" "_law_key" (defArgs s__law_key) (defBody s__law_key) (defScope s__law_key) .none kV24 dc24 pm24 an24 cd24 ct24), sl24⟩) (c24 : PySem.W.codeIn K cd24 "_law_key" = true) (k24 : PySem.W.keepIn K (.ref f24) = true)
    (a25 : PySem.W.nsIn K mainGlobals "_law_pressed" = some (some (.ref f25))) (l25 : K.lookup f25 = some ⟨oc25, od25, .func (PySem.W.fnOf "_law_pressed" "_law_pressed" (defArgs s__law_pressed) (defBody s__law_pressed) (defScope s__law_pressed) .none kV25 dc25 pm25 an25 cd25 ct25), sl25⟩) (c25 : PySem.W.codeIn K cd25 "_law_pressed" = true) (k25 : PySem.W.keepIn K (.ref f25) = true)
    (a26 : PySem.W.nsIn K mainGlobals "_law_sheet" = some (some (.ref f26))) (l26 : K.lookup f26 = some ⟨oc26, od26, .func (PySem.W.fnOf "_law_sheet" "_law_sheet" (defArgs s__law_sheet) (defBody s__law_sheet) (defScope s__law_sheet) .none kV26 dc26 pm26 an26 cd26 ct26), sl26⟩) (c26 : PySem.W.codeIn K cd26 "_law_sheet" = true) (k26 : PySem.W.keepIn K (.ref f26) = true)
    (a27 : PySem.W.nsIn K mainGlobals "_law_heavy" = some (some (.ref f27))) (l27 : K.lookup f27 = some ⟨oc27, od27, .func (PySem.W.fnOf "_law_heavy" "_law_heavy" (defArgs s__law_heavy) (defBody s__law_heavy) (defScope s__law_heavy) .none kV27 dc27 pm27 an27 cd27 ct27), sl27⟩) (c27 : PySem.W.codeIn K cd27 "_law_heavy" = true) (k27 : PySem.W.keepIn K (.ref f27) = true)
    (a28 : PySem.W.nsIn K mainGlobals "_law_right" = some (some (.ref f28))) (l28 : K.lookup f28 = some ⟨oc28, od28, .func (PySem.W.fnOf "_law_right" "_law_right" (defArgs s__law_right) (defBody s__law_right) (defScope s__law_right) .none kV28 dc28 pm28 an28 cd28 ct28), sl28⟩) (c28 : PySem.W.codeIn K cd28 "_law_right" = true) (k28 : PySem.W.keepIn K (.ref f28) = true)
    (a29 : PySem.W.nsIn K mainGlobals "law" = some (some (.ref f29))) (l29 : K.lookup f29 = some ⟨oc29, od29, .func (PySem.W.fnOf "law" "law" (defArgs s_law) (defBody s_law) (defScope s_law) .none kV29 dc29 pm29 an29 cd29 ct29), sl29⟩) (c29 : PySem.W.codeIn K cd29 "law" = true) (k29 : PySem.W.keepIn K (.ref f29) = true)
    (z_abs : PySem.W.nsIn K mainGlobals "abs" = some none)
    (z_all : PySem.W.nsIn K mainGlobals "all" = some none)
    (z_bool : PySem.W.nsIn K mainGlobals "bool" = some none)
    (z_int : PySem.W.nsIn K mainGlobals "int" = some none)
    (z_isinstance : PySem.W.nsIn K mainGlobals "isinstance" = some none)
    (z_len : PySem.W.nsIn K mainGlobals "len" = some none)
    (z_list : PySem.W.nsIn K mainGlobals "list" = some none)
    (z_min : PySem.W.nsIn K mainGlobals "min" = some none)
    (z_range : PySem.W.nsIn K mainGlobals "range" = some none)
    (z_repr : PySem.W.nsIn K mainGlobals "repr" = some none)
    (z_str : PySem.W.nsIn K mainGlobals "str" = some none)
    (z_sum : PySem.W.nsIn K mainGlobals "sum" = some none)
    (z_tuple : PySem.W.nsIn K mainGlobals "tuple" = some none)
    (z_type : PySem.W.nsIn K mainGlobals "type" = some none)
    (v_ALPHABET : PySem.W.nsIn K mainGlobals "ALPHABET" = some (some (.str "abcdefghijklmnopqrstuvwxyz" t_ALPHABET)))
    (v_HEAVIEST : PySem.W.nsIn K mainGlobals "HEAVIEST" = some (some (.int 60 t_HEAVIEST)))
    (v_LONGEST_WORD : PySem.W.nsIn K mainGlobals "LONGEST_WORD" = some (some (.int 60 t_LONGEST_WORD)))
    (v_MOST_TIMES : PySem.W.nsIn K mainGlobals "MOST_TIMES" = some (some (.int 300 t_MOST_TIMES)))
    (v_SIDES : PySem.W.nsIn K mainGlobals "SIDES" = some (some (.ref d_SIDES))) (l_SIDES : K.lookup d_SIDES = some ⟨.type "dict", none, .dict es_SIDES n_SIDES, #[]⟩) (k_SIDES : PySem.W.KeysLit w.params es_SIDES.toList) (b_SIDES : (d_SIDES == sysModules) = false) (e_SIDES : es_SIDES.toList.map dtx = ([("left", "left"), ("rub", "left"), ("right", "right"), ("strike", "right"), ("copy", "right"), ("cut", "right")] : List (Str × Str)).map some) :
    ∃ fd : FuncData, (∀ (s : Shared) (v : Value), BindsTo s fd ⟨[v], []⟩ [("script", v)]) ∧ ∀ base : Heap, K.In base → base.Ns mainGlobals mg → FnG l.prog w K mg base L2.CX0 9 fa fd ["script"] (spLaw K) := by
  have e := hfa.symm.trans (PySem.W.mg_of X G a29)
  cases e
  have F0 := fun_mk (st := s_is_row) l0 c0 k0
  have F1 := fun_mk (st := s_is_whole) l1 c1 k1
  have F2 := fun_mk (st := s_is_within) l2 c2 k2
  have F3 := fun_mk (st := s_is_plain) l3 c3 k3
  have F4 := fun_mk (st := s_is_clip) l4 c4 k4
  have F5 := fun_mk (st := s_is_word) l5 c5 k5
  have F6 := fun_mk (st := s_is_key) l6 c6 k6
  have F7 := fun_mk (st := s_key_weight) l7 c7 k7
  have F8 := fun_mk (st := s_weigh) l8 c8 k8
  have F9 := fun_mk (st := s_is_hand) l9 c9 k9
  have F10 := fun_mk (st := s_check_hand) l10 c10 k10
  have F11 := fun_mk (st := s_is_sheet) l11 c11 k11
  have F12 := fun_mk (st := s_check_sheet) l12 c12 k12
  have F13 := fun_mk (st := s_nearest) l13 c13 k13
  have F14 := fun_mk (st := s_take) l14 c14 k14
  have F15 := fun_mk (st := s_do_key) l15 c15 k15
  have F16 := fun_mk (st := s_press) l16 c16 k16
  have G16 : FunD K "press" "press" (defArgs s_press) (defBody s_press) (defScope s_press) [] [("times", .int 1)] f16 _ := ⟨⟨_, _, _, _, _, _, _, _, _, _, rfl, l16, c16, .inl ⟨rfl, rfl⟩, .inr ⟨D16, rfl, fun q hq => by rw [List.mem_singleton.mp hq]; exact ⟨_, e16, _, rfl⟩⟩⟩, k16⟩
  obtain ⟨ds16, vd16, bd16⟩ := bd_press G16
  have F17 := fun_mk (st := s__law_spring) l17 c17 k17
  have F18 := fun_mk (st := s__law_draw) l18 c18 k18
  have F19 := fun_mk (st := s__law_same) l19 c19 k19
  have F20 := fun_mk (st := s__law_lists) l20 c20 k20
  have F21 := fun_mk (st := s__law_handed) l21 c21 k21
  have F22 := fun_mk (st := s__law_word) l22 c22 k22
  have F23 := fun_mk (st := s__law_hand) l23 c23 k23
  have F24 := fun_mk (st := s__law_key) l24 c24 k24
  have F25 := fun_mk (st := s__law_pressed) l25 c25 k25
  have F26 := fun_mk (st := s__law_sheet) l26 c26 k26
  have F27 := fun_mk (st := s__law_heavy) l27 c27 k27
  have F28 := fun_mk (st := s__law_right) l28 c28 k28
  have F29 := fun_mk (st := s_law) l29 c29 k29
  let T : Txt K mg w := ⟨⟨f0, _, F0, PySem.W.mg_of X G a0, F0.binds (ps := ["thing"]) fun _ _ _ _ _ _ us hl => match us, hl with | [_], _ => rfl⟩,
    ⟨f1, _, F1, PySem.W.mg_of X G a1, F1.binds (ps := ["thing", "low"]) fun _ _ _ _ _ _ us hl => match us, hl with | [_, _], _ => rfl⟩,
    ⟨f2, _, F2, PySem.W.mg_of X G a2, F2.binds (ps := ["thing", "low", "high"]) fun _ _ _ _ _ _ us hl => match us, hl with | [_, _, _], _ => rfl⟩,
    ⟨f3, _, F3, PySem.W.mg_of X G a3, F3.binds (ps := ["thing"]) fun _ _ _ _ _ _ us hl => match us, hl with | [_], _ => rfl⟩,
    ⟨f4, _, F4, PySem.W.mg_of X G a4, F4.binds (ps := ["thing"]) fun _ _ _ _ _ _ us hl => match us, hl with | [_], _ => rfl⟩,
    ⟨f5, _, F5, PySem.W.mg_of X G a5, F5.binds (ps := ["thing"]) fun _ _ _ _ _ _ us hl => match us, hl with | [_], _ => rfl⟩,
    ⟨f6, _, F6, PySem.W.mg_of X G a6, F6.binds (ps := ["thing"]) fun _ _ _ _ _ _ us hl => match us, hl with | [_], _ => rfl⟩,
    ⟨f7, _, F7, PySem.W.mg_of X G a7, F7.binds (ps := ["key"]) fun _ _ _ _ _ _ us hl => match us, hl with | [_], _ => rfl⟩,
    ⟨f8, _, F8, PySem.W.mg_of X G a8, F8.binds (ps := ["keys"]) fun _ _ _ _ _ _ us hl => match us, hl with | [_], _ => rfl⟩,
    ⟨f9, _, F9, PySem.W.mg_of X G a9, F9.binds (ps := ["thing"]) fun _ _ _ _ _ _ us hl => match us, hl with | [_], _ => rfl⟩,
    ⟨f10, _, F10, PySem.W.mg_of X G a10, F10.binds (ps := ["thing"]) fun _ _ _ _ _ _ us hl => match us, hl with | [_], _ => rfl⟩,
    ⟨f11, _, F11, PySem.W.mg_of X G a11, F11.binds (ps := ["thing"]) fun _ _ _ _ _ _ us hl => match us, hl with | [_], _ => rfl⟩,
    ⟨f12, _, F12, PySem.W.mg_of X G a12, F12.binds (ps := ["thing"]) fun _ _ _ _ _ _ us hl => match us, hl with | [_], _ => rfl⟩,
    ⟨f13, _, F13, PySem.W.mg_of X G a13, F13.binds (ps := ["side", "many"]) fun _ _ _ _ _ _ us hl => match us, hl with | [_, _], _ => rfl⟩,
    ⟨f14, _, F14, PySem.W.mg_of X G a14, F14.binds (ps := ["side", "many"]) fun _ _ _ _ _ _ us hl => match us, hl with | [_, _], _ => rfl⟩,
    ⟨f15, _, F15, PySem.W.mg_of X G a15, F15.binds (ps := ["key", "left", "right", "held"]) fun _ _ _ _ _ _ us hl => match us, hl with | [_, _, _, _], _ => rfl⟩,
    ⟨f16, _, F16, PySem.W.mg_of X G a16, ds16, vd16, bd16, kb_press G16⟩,
    ⟨f17, _, F17, PySem.W.mg_of X G a17, F17.binds (ps := ["script"]) fun _ _ _ _ _ _ us hl => match us, hl with | [_], _ => rfl⟩,
    ⟨f18, _, F18, PySem.W.mg_of X G a18, F18.binds (ps := ["spring", "many"]) fun _ _ _ _ _ _ us hl => match us, hl with | [_, _], _ => rfl⟩,
    ⟨f19, _, F19, PySem.W.mg_of X G a19, F19.binds (ps := ["found", "due"]) fun _ _ _ _ _ _ us hl => match us, hl with | [_, _], _ => rfl⟩,
    ⟨f20, _, F20, PySem.W.mg_of X G a20, F20.binds (ps := ["thing"]) fun _ _ _ _ _ _ us hl => match us, hl with | [_], _ => rfl⟩,
    ⟨f21, _, F21, PySem.W.mg_of X G a21, F21.binds (ps := ["spring", "thing"]) fun _ _ _ _ _ _ us hl => match us, hl with | [_, _], _ => rfl⟩,
    ⟨f22, _, F22, PySem.W.mg_of X G a22, F22.binds (ps := ["spring", "most"]) fun _ _ _ _ _ _ us hl => match us, hl with | [_, _], _ => rfl⟩,
    ⟨f23, _, F23, PySem.W.mg_of X G a23, F23.binds (ps := ["spring", "most", "wide"]) fun _ _ _ _ _ _ us hl => match us, hl with | [_, _, _], _ => rfl⟩,
    ⟨f24, _, F24, PySem.W.mg_of X G a24, F24.binds (ps := ["sheet", "key"]) fun _ _ _ _ _ _ us hl => match us, hl with | [_, _], _ => rfl⟩,
    ⟨f25, _, F25, PySem.W.mg_of X G a25, F25.binds (ps := ["sheet", "hand", "often_so"]) fun _ _ _ _ _ _ us hl => match us, hl with | [_, _, _], _ => rfl⟩,
    ⟨f26, _, F26, PySem.W.mg_of X G a26, F26.binds (ps := ["spring", "most"]) fun _ _ _ _ _ _ us hl => match us, hl with | [_, _], _ => rfl⟩,
    ⟨f27, _, F27, PySem.W.mg_of X G a27, F27.binds (ps := ["hand"]) fun _ _ _ _ _ _ us hl => match us, hl with | [_], _ => rfl⟩,
    ⟨f28, _, F28, PySem.W.mg_of X G a28, F28.binds (ps := ["sheet", "hand", "handed", "keys", "often_so"]) fun _ _ _ _ _ _ us hl => match us, hl with | [_, _, _, _, _], _ => rfl⟩,
    ⟨fa, _, F29, PySem.W.mg_of X G a29, F29.binds (ps := ["script"]) fun _ _ _ _ _ _ us hl => match us, hl with | [_], _ => rfl⟩,
    PySem.W.mg_none_of X G z_abs,
    PySem.W.mg_none_of X G z_all,
    PySem.W.mg_none_of X G z_bool,
    PySem.W.mg_none_of X G z_int,
    PySem.W.mg_none_of X G z_isinstance,
    PySem.W.mg_none_of X G z_len,
    PySem.W.mg_none_of X G z_list,
    PySem.W.mg_none_of X G z_min,
    PySem.W.mg_none_of X G z_range,
    PySem.W.mg_none_of X G z_repr,
    PySem.W.mg_none_of X G z_str,
    PySem.W.mg_none_of X G z_sum,
    PySem.W.mg_none_of X G z_tuple,
    PySem.W.mg_none_of X G z_type,
    ⟨_, PySem.W.mg_of X G v_ALPHABET⟩,
    ⟨_, PySem.W.mg_of X G v_HEAVIEST⟩,
    ⟨_, PySem.W.mg_of X G v_LONGEST_WORD⟩,
    ⟨_, PySem.W.mg_of X G v_MOST_TIMES⟩,
    ⟨d_SIDES, es_SIDES, n_SIDES, PySem.W.mg_of X G v_SIDES, ⟨l_SIDES, k_SIDES, b_SIDES⟩, e_SIDES⟩⟩
  exact ⟨T.f_law.fd, fun s v => .of_eq rfl, fun base _ _ => ok_law T⟩
end BK
open PySem PySem.W PyProof.Rows
set_option maxRecDepth 100000 in
set_option maxHeartbeats 0 in
theorem PySem.Challenge.cw_blindkeys_k09_pressed_key_by_key_holds : PySem.Challenge.rw_blindkeys_k09_pressed_key_by_key.Holds := by
  w_on; o_law; k_head; (case hw => w_witness2)
  k_fill
  refine BK.walk_G (l := PySem.Challenge.rw_blindkeys_k09_pressed_key_by_key) (n := 63) (k := 9) (x := "script") (C := fun _ => L2.CX0) (sp := fun w => BK.spLaw _) rfl (by decide) rfl ⟨rfl, by decide, by decide⟩ (fun w h Y => PySem.W.kIn_of Y) ?F (fun _ _ a ns hl _ hS => ⟨a, ns, rfl, hS, hl, fun _ => rfl⟩) (fun _ _ _ _ _ h => h)
  case F =>
    intro w mg fa h KX G hmg
    refine' BK.all_mk KX G hmg ?a0 ?l0 ?c0 ?k0 ?a1 ?l1 ?c1 ?k1 ?a2 ?l2 ?c2 ?k2 ?a3 ?l3 ?c3 ?k3 ?a4 ?l4 ?c4 ?k4 ?a5 ?l5 ?c5 ?k5 ?a6 ?l6 ?c6 ?k6 ?a7 ?l7 ?c7 ?k7 ?a8 ?l8 ?c8 ?k8 ?a9 ?l9 ?c9 ?k9 ?a10 ?l10 ?c10 ?k10 ?a11 ?l11 ?c11 ?k11 ?a12 ?l12 ?c12 ?k12 ?a13 ?l13 ?c13 ?k13 ?a14 ?l14 ?c14 ?k14 ?a15 ?l15 ?c15 ?k15 ?a16 ?l16 ?c16 ?k16 ?e16 ?a17 ?l17 ?c17 ?k17 ?a18 ?l18 ?c18 ?k18 ?a19 ?l19 ?c19 ?k19 ?a20 ?l20 ?c20 ?k20 ?a21 ?l21 ?c21 ?k21 ?a22 ?l22 ?c22 ?k22 ?a23 ?l23 ?c23 ?k23 ?a24 ?l24 ?c24 ?k24 ?a25 ?l25 ?c25 ?k25 ?a26 ?l26 ?c26 ?k26 ?a27 ?l27 ?c27 ?k27 ?a28 ?l28 ?c28 ?k28 ?a29 ?l29 ?c29 ?k29 ?z_abs ?z_all ?z_bool ?z_int ?z_isinstance ?z_len ?z_list ?z_min ?z_range ?z_repr ?z_str ?z_sum ?z_tuple ?z_type ?v_ALPHABET ?v_HEAVIEST ?v_LONGEST_WORD ?v_MOST_TIMES ?v_SIDES ?l_SIDES ?k_SIDES ?b_SIDES ?e_SIDES
    (case a0 => k_is)
    (case l0 => k_is)
    (case c0 => k_is)
    (case k0 => k_is)
    (case a1 => k_is)
    (case l1 => k_is)
    (case c1 => k_is)
    (case k1 => k_is)
    (case a2 => k_is)
    (case l2 => k_is)
    (case c2 => k_is)
    (case k2 => k_is)
    (case a3 => k_is)
    (case l3 => k_is)
    (case c3 => k_is)
    (case k3 => k_is)
    (case a4 => k_is)
    (case l4 => k_is)
    (case c4 => k_is)
    (case k4 => k_is)
    (case a5 => k_is)
    (case l5 => k_is)
    (case c5 => k_is)
    (case k5 => k_is)
    (case a6 => k_is)
    (case l6 => k_is)
    (case c6 => k_is)
    (case k6 => k_is)
    (case a7 => k_is)
    (case l7 => k_is)
    (case c7 => k_is)
    (case k7 => k_is)
    (case a8 => k_is)
    (case l8 => k_is)
    (case c8 => k_is)
    (case k8 => k_is)
    (case a9 => k_is)
    (case l9 => k_is)
    (case c9 => k_is)
    (case k9 => k_is)
    (case a10 => k_is)
    (case l10 => k_is)
    (case c10 => k_is)
    (case k10 => k_is)
    (case a11 => k_is)
    (case l11 => k_is)
    (case c11 => k_is)
    (case k11 => k_is)
    (case a12 => k_is)
    (case l12 => k_is)
    (case c12 => k_is)
    (case k12 => k_is)
    (case a13 => k_is)
    (case l13 => k_is)
    (case c13 => k_is)
    (case k13 => k_is)
    (case a14 => k_is)
    (case l14 => k_is)
    (case c14 => k_is)
    (case k14 => k_is)
    (case a15 => k_is)
    (case l15 => k_is)
    (case c15 => k_is)
    (case k15 => k_is)
    (case a16 => k_is)
    (case l16 => k_is)
    (case c16 => k_is)
    (case k16 => k_is)
    (case e16 => k_is)
    (case a17 => k_is)
    (case l17 => k_is)
    (case c17 => k_is)
    (case k17 => k_is)
    (case a18 => k_is)
    (case l18 => k_is)
    (case c18 => k_is)
    (case k18 => k_is)
    (case a19 => k_is)
    (case l19 => k_is)
    (case c19 => k_is)
    (case k19 => k_is)
    (case a20 => k_is)
    (case l20 => k_is)
    (case c20 => k_is)
    (case k20 => k_is)
    (case a21 => k_is)
    (case l21 => k_is)
    (case c21 => k_is)
    (case k21 => k_is)
    (case a22 => k_is)
    (case l22 => k_is)
    (case c22 => k_is)
    (case k22 => k_is)
    (case a23 => k_is)
    (case l23 => k_is)
    (case c23 => k_is)
    (case k23 => k_is)
    (case a24 => k_is)
    (case l24 => k_is)
    (case c24 => k_is)
    (case k24 => k_is)
    (case a25 => k_is)
    (case l25 => k_is)
    (case c25 => k_is)
    (case k25 => k_is)
    (case a26 => k_is)
    (case l26 => k_is)
    (case c26 => k_is)
    (case k26 => k_is)
    (case a27 => k_is)
    (case l27 => k_is)
    (case c27 => k_is)
    (case k27 => k_is)
    (case a28 => k_is)
    (case l28 => k_is)
    (case c28 => k_is)
    (case k28 => k_is)
    (case a29 => k_is)
    (case l29 => k_is)
    (case c29 => k_is)
    (case k29 => k_is)
    (case z_abs => k_is)
    (case z_all => k_is)
    (case z_bool => k_is)
    (case z_int => k_is)
    (case z_isinstance => k_is)
    (case z_len => k_is)
    (case z_list => k_is)
    (case z_min => k_is)
    (case z_range => k_is)
    (case z_repr => k_is)
    (case z_str => k_is)
    (case z_sum => k_is)
    (case z_tuple => k_is)
    (case z_type => k_is)
    (case v_ALPHABET => k_is)
    (case v_HEAVIEST => k_is)
    (case v_LONGEST_WORD => k_is)
    (case v_MOST_TIMES => k_is)
    (case v_SIDES => k_is)
    (case l_SIDES => k_is)
    (case k_SIDES => k_keys)
    (case b_SIDES => rfl)
    (case e_SIDES => rfl)
