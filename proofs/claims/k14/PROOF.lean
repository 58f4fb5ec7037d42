import PyProof.Rows.All
import Wide.All
import OpenK.AllK
import Wide.FinOn
import PyProof.TypeEq
import PyProof.Rows.StrMul
import PyProof.LongRange
import HandS.ForMost
import HandS.Wide
import HandS.WideBits
import HandS.More
import HandS.StrMore
import HandS.NoneIn
import HandS.Flow
import HandS.SortInts
import PyProof.ListStr
import HandS.Defaults
import HandS.Dict
import HandS.Conv
import HandS.Replace
import PyProof.ReprRoads
import PyProof.ReprBulk
import HandS.IsInst
import HandS.Codes
import HandS.Style
import HandS.Walk
import PySem.Challenge.RW_blindkeys_k14_whole_far_letters_lie_as_t
set_option Elab.async false
set_option linter.all false
set_option maxRecDepth 100000
set_option maxHeartbeats 4000000
namespace BK
open PySem PySem.Spec PyProof.Rows L2

/-! ### more rules -/
section
variable {A : Around} {s : Shared}
theorem meta_of {n : String} (h : n ∈ ["int", "str", "bool", "NoneType", "list", "tuple", "dict"]) (s' : Shared) : s'.TypeIs (.type n) "type" := by
  simp only [List.mem_cons, List.not_mem_nil, or_false] at h
  rcases h with rfl | rfl | rfl | rfl | rfl | rfl | rfl
  · exact TypeEq.meta_int s'
  · exact TypeEq.meta_str s'
  · exact TypeEq.meta_bool s'
  · exact TypeEq.meta_NoneType s'
  · exact TypeEq.meta_list s'
  · exact TypeEq.meta_tuple s'
  · exact TypeEq.meta_dict s'
theorem eqAt_ty {a b : String} (ha : a ∈ ["int", "str", "bool", "NoneType", "list", "tuple", "dict"]) (hb : b ∈ ["int", "str", "bool", "NoneType", "list", "tuple", "dict"]) : SeqAt.EqAt A s (.type a) (.type b) (decide (a = b)) := fun prog w E Q h => by
  unfold eqBool
  refine wpAny_holding ?_
  by_cases e : a = b
  · subst e
    rw [decide_eq_true rfl] at h
    refine wpAny_ite_split (fun _ => wpAny_bind (wpAny_rule (wpAny_pure h))) (fun hab => absurd (beq_self_eq_true _) hab)
  · rw [decide_eq_false e] at h
    have hne : (Value.type a == Value.type b) = false := beq_eq_false_iff_ne.mpr fun z => e (Value.type.inj z)
    refine wpAny_ite_split (fun hab => absurd hab (by rw [hne]; exact Bool.false_ne_true)) (fun _ => ?_)
    exact wpAny_bind (TypeEq.eq_type_other (meta_of ha) (meta_of hb) hne (wpAny_truthy_bool h))
end
abbrev knownTy : List String := ["int", "str", "bool", "NoneType", "list", "tuple", "dict"]
/-- type(x) in (list, tuple) -/
def rInTy (K : PySem.W.Frag) : R2 := fun x y H Q => ∃ (a : String) (p : Addr) (ns : List String), x = .ty a ∧ y = .ref p ∧ SqT K H p (ns.map V.ty) ∧ a ∈ knownTy ∧ (∀ n ∈ ns, n ∈ knownTy) ∧ Q (.bl (decide (a ∈ ns))) H
theorem vals_ty : ∀ {ns : List String} {us : List Value}, Vals (ns.map V.ty) us → us = ns.map Value.type
  | [], _, .nil => rfl
  | n :: ns, _, .cons r t => by
    have e := vals_ty t
    cases (show _ = Value.type n from r)
    rw [e, List.map_cons]
section
variable {X : Cx}
theorem op_in_ty : OpR X (compareOp .In) (rInTy X.K) := by
  intro pins s σ H x y v u Q I rx ry h
  obtain ⟨a, p, ns, rfl, rfl, hq, ha, hn, q⟩ := h
  cases (show v = Value.type a from rx)
  cases (show u = Value.ref p from ry)
  obtain ⟨its, r, pl, hz⟩ := I.tuple hq
  have e := vals_ty r
  subst e
  refine SeqAt.in_tupleAt (fun y => match y with | .type n => decide (n = a) | _ => false) pl (fun w hw => ?_) ⟨.bl _, H, I, rfl, ?_⟩
  · simp only [List.mem_toArray, List.mem_map] at hw
    obtain ⟨n, hn1, rfl⟩ := hw
    exact eqAt_ty (hn n hn1) ha
  · have e : (((ns.map Value.type).toArray).any (fun y => match y with | .type n => decide (n = a) | _ => false)) = decide (a ∈ ns) := by
      rw [List.any_toArray, List.any_map, Bool.eq_iff_iff, List.any_eq_true, decide_eq_true_iff]
      constructor
      · rintro ⟨n, h1, h2⟩
        have : n = a := of_decide_eq_true h2
        subst this
        exact h1
      · intro h1
        exact ⟨a, h1, decide_eq_true rfl⟩
    rw [e]
    exact q
/-- text * int -/
def rMulS : R2 := fun x y H Q => ∃ z n, x = .str z ∧ y = .int n ∧ MulOk z n ∧ Q (.str (Txt.mul z n)) H
theorem op_mul_str : OpR X (binaryOp .Mult) rMulS := by
  intro pins s σ H x y v u Q I rx ry h
  obtain ⟨z, n, rfl, rfl, ok, q⟩ := h
  obtain ⟨t, rfl⟩ := rx
  obtain ⟨t', rfl⟩ := ry
  exact SB.mul ok fun t2 k => ⟨.str _, H, I.tok _, ⟨_, rfl⟩, q⟩
theorem OpR.or {f : Value → Value → Sem Value} {r r' : R2} (h : OpR X f r) (h' : OpR X f r') : OpR X f (fun x y H Q => r x y H Q ∨ r' x y H Q) := by
  intro pins s σ H x y v u Q I rx ry hh
  rcases hh with hh | hh
  · exact h pins s σ H x y v u Q I rx ry hh
  · exact h' pins s σ H x y v u Q I rx ry hh
theorem pi_or {tg it : PySem.Expr} {w1 w2 : TI} (h1 : PI X tg it w1) (h2 : PI X tg it w2) : PI X tg it (fun σ H R => w1 σ H R ∨ w2 σ H R) := ⟨fun pins s σ H R I h => by
  rcases h with h | h
  · exact h1.run pins s σ H R I h
  · exact h2.run pins s σ H R I h⟩
theorem pg_or {tg : PySem.Expr} {g1 g2 : TG} (h1 : PG X tg g1) (h2 : PG X tg g2) : PG X tg (fun v σ H Q => g1 v σ H Q ∨ g2 v σ H Q) := ⟨fun pins s σ H v u Q I r h => by
  rcases h with h | h
  · exact h1.run pins s σ H v u Q I r h
  · exact h2.run pins s σ H v u Q I r h⟩
end

/-! ### range(a, b) of any ints -/
section
theorem turn_long {P : Program} {w : World} {K : PySem.W.Frag} {tg : PySem.Expr} (it : Addr) (lo : Int) (n : Nat) : Turn P w K tg (Itr lo n) [it] it (fun i h => IsLongIter h it (lo + (i : Nat) * 1) ((n : Int) - (i : Nat)) 1) where
  mem := by simp
  obj := fun i h st b hb => by
    have e : b = it := by simpa using hb
    subst e
    exact ⟨_, st, fun v z => by
      have z' : Data.fields _ = Data.cell v := z
      cases z'⟩
  keep := fun i h h' st k => k it (by simp) _ st
  item := by
    intro X hP hw hK hc i pins s σ H E I hf st hg
    subst hP hw hK
    obtain ⟨f0, f1, f2, f3, f4, f5⟩ := hf it (by simp)
    have W := Walks.longrange (prog := X.prog) (w := X.w) (I.ok.hd hc) it lo 1 n
    refine W.item i s _ _ hg st fun v h' tk hv st' kk => ?_
    obtain ⟨t, rfl⟩ := hv
    have I1 : Inv X pins σ H { s with heap := h', toks := tk } := I.turned (fun b o hb e => kk b o (by simpa using hb) e) f0 f1 f3 f4 f5
    refine ⟨_, rfl, go_of (s := { s with heap := h', toks := tk }) (n := "longrange_iterator") st' rfl rfl (by decide) ⟨.int (lo + i), H, I1, ⟨t, ?_⟩, ⟨rfl, rfl⟩, st', fun b hb => (hf b hb).1⟩⟩
    rw [Int.mul_one]
  done := by
    intro X hP hw hK hc i pins s σ H E I hf st hg
    subst hP hw hK
    obtain ⟨f0, f1, f2, f3, f4, f5⟩ := hf it (by simp)
    exact wpAny_pyNext_long_end (I.ok.hd hc) st (by have : n ≤ i := hg; omega) fun h' eb => ⟨rfl, I.turned (t' := s.toks) (fun b o hb e => eb b o hb e) f0 f1 f3 f4 f5⟩
  self := fun _ _ _ _ _ st h => wpAny_pyIter_longiter st h
variable {X : Cx} {tg : PySem.Expr}
theorem rsize1 (lo hi : Int) : Builtin.Range.rangeSize lo hi 1 = (((hi - lo).toNat : Nat) : Int) := by
  rw [rangeSize_one]
  split <;> omega
theorem range_itL {pins : List (Addr × Obj)} {σ : L2.St} {H : Hp} {s : Shared} {R : It → Hp → Prop} {E : Value → Shared → Prop} {lo hi : Int} {t u v : Tok} {tk : Nat} (I : Inv X pins σ H s)
    (q : R (Itr lo (hi - lo).toNat) H) : wpAny (model X.prog X.w) X.A (pyIter (.ref s.heap.objs.size)) (PIE X pins σ tg R) E { s with heap := s.heap.push { cls := .type "range", data := .fields #[.int lo t, .int hi u, .int 1 v] }, toks := tk } := by
  have I1 : Inv X pins σ H { s with heap := s.heap.push { cls := .type "range", data := .fields #[.int lo t, .int hi u, .int 1 v] }, toks := tk } := I.kept fun b o e => Heap.get?_push_of_some _ e
  have e1 : lo + ((0 : Nat) : Int) * 1 = lo := by simp
  have e2 : (((hi - lo).toNat : Nat) : Int) - ((0 : Nat) : Int) = Builtin.Range.rangeSize lo hi 1 := by rw [rsize1]; omega
  have hf : ∀ b ∈ [(s.heap.push { cls := .type "range", data := .fields #[.int lo t, .int hi u, .int 1 v] }).objs.size], FpOk X pins H b := fun b hb => by
    have e : b = (s.heap.push { cls := .type "range", data := .fields #[.int lo t, .int hi u, .int 1 v] }).objs.size := by simpa using hb
    subst e
    exact I1.fpOk (Nat.le_refl _) (I1.hok.fresh (Nat.le_refl _))
  cases hs : Builtin.Range.small lo hi 1 with
  | true =>
    refine wpAny_pyIter_range (IsRange.new ..) hs ?_
    refine ⟨(s.heap.push { cls := .type "range", data := .fields #[.int lo t, .int hi u, .int 1 v] }).objs.size, [(s.heap.push { cls := .type "range", data := .fields #[.int lo t, .int hi u, .int 1 v] }).objs.size], _, _, H, rfl,
      I1.kept (t' := tk) fun b o e => Heap.get?_push_of_some _ e, turn_range _ lo (hi - lo).toNat, ?_, hf, q⟩
    show IsRangeIter _ _ (lo + ((0 : Nat) : Int) * 1) ((((hi - lo).toNat : Nat) : Int) - ((0 : Nat) : Int)) 1
    rw [e1, e2]
    exact Heap.get?_push_size _ rfl
  | false =>
    refine wpAny_pyIter_longrange (IsRange.new ..) hs ?_
    refine ⟨(s.heap.push { cls := .type "range", data := .fields #[.int lo t, .int hi u, .int 1 v] }).objs.size, [(s.heap.push { cls := .type "range", data := .fields #[.int lo t, .int hi u, .int 1 v] }).objs.size], _, _, H, rfl,
      I1.kept (t' := tk) fun b o e => Heap.get?_push_of_some _ e, turn_long _ lo (hi - lo).toNat, ?_, hf, q⟩
    show IsLongIter _ _ (lo + ((0 : Nat) : Int) * 1) ((((hi - lo).toNat : Nat) : Int) - ((0 : Nat) : Int)) 1
    rw [e1, e2]
    exact Heap.get?_push_size _ rfl
def iRng2L (ta : TA) : TI := fun σ H R => ta σ H fun vs H1 => ∃ i j : Int, vs = [.int i, .int j] ∧ R (Itr i (j - i).toNat) H1
theorem pi_range2L {a b : PySem.Expr} {ta : TA} {p pos : Pos} (hg : Gl X "range") (hm : X.mg "range" = none) (ha : PA X [a, b] ta) (hs : starEach [a, b] X.env = [(false, eval a X.env), (false, eval b X.env)] := by rfl) (hs2 : starEach [b] X.env = [(false, eval b X.env)] := by rfl) :
    PI X tg (.Call (.Name "range" p) [a, b] [] pos) (iRng2L ta) := by
  refine ⟨fun pins s σ H R I h => ?_⟩
  refine Call_ (ld_blt I hg hm boot_range (PyProof.Rows.callWith_type1 (thn (ha.run pos pins s σ H _ I h) fun us s1 ⟨vs, H1, I1, r1, q1⟩ => ?_) (by rw [hs, hs2]) (by rw [hs2]; rfl)))
  obtain ⟨i, j, e, q⟩ := q1
  subst e
  cases r1 with
  | cons r rr =>
    cases rr with
    | cons r' rr =>
      cases rr
      obtain ⟨t, rfl⟩ := r
      obtain ⟨t', rfl⟩ := r'
      exact call_range_2 (range_itL I1 q)
end

/-! ### rows: a list or a tuple -/
def Row (K : PySem.W.Frag) (H : Hp) (a : Addr) (xs : List V) : Prop := SqL K H a xs ∨ SqT K H a xs
theorem sameT {K : PySem.W.Frag} {H H' : Hp} {a : Addr} {xs : List V} (e : Same H H') (h : SqT K H a xs) : SqT K H' a xs := by
  rcases h with (h | ⟨o, h⟩) | h
  · exact .inl (.inl (e _ _ h))
  · exact .inl (.inr ⟨o, e _ _ h⟩)
  · exact .inr h
theorem Row.same {K : PySem.W.Frag} {H H' : Hp} {a : Addr} {xs : List V} (e : Same H H') (h : Row K H a xs) : Row K H' a xs := h.imp e.seq (sameT e)
theorem same_upd {H : Hp} {p : Addr} {o : HO} (h : H p = none) : Same H (upd H p o) := fun b x e => by
  rw [upd_ne (ne_of_none e h)]
  exact e
section
variable {X : Cx} {pos : Pos}
theorem call_lenA : CallR X (.builtin "len") (fun xs H Q => (∃ p ys, xs = [.ref p] ∧ (SqL X.K H p ys ∨ SqT X.K H p ys) ∧ Q (.int ys.length) H) ∨ (∃ z, xs = [.str z] ∧ z.length ≤ sizeLine ∧ Q (.int z.length) H)) := CallR.or call_len_seq call_len_str
def iSeq (K : PySem.W.Frag) (tl : TE) : TI := fun σ H R => iList K tl σ H R ∨ iTup K tl σ H R
theorem pi_seq {tg l : PySem.Expr} {tl : TE} (hl : PE X l tl) : PI X tg l (iSeq X.K tl) := pi_or (pi_list hl) (pi_tup hl)
def gSeq (K : PySem.W.Frag) (n : Nat) (t : TGs) : TG := fun v σ H Q => gTup K n t v σ H Q ∨ gUnl K n t v σ H Q
theorem pg_seq {es : List PySem.Expr} {k : Nat} {t : TGs} {n : Nat} (hc : X.calm = true) (h : PGs X es t)
    (hn : (assignEach es X.env).length = n := by rfl) (hst : (assignEach es X.env).findIdx? (·.1) = none := by rfl) : PG X (.Tuple es k pos) (gSeq X.K n t) := pg_or (pg_tup hc h hn hst) (pg_unl hc h hn hst)
end
theorem gSeq.row {K : PySem.W.Frag} {n : Nat} {t : TGs} {a : Addr} {xs : List V} {σ : L2.St} {H : Hp} {Q : L2.St → Hp → Prop} (h : Row K H a xs) (hl : xs.length = n) (q : t xs σ H Q) : gSeq K n t (.ref a) σ H Q := by
  rcases h with h | h
  · exact .inr ⟨a, xs, rfl, h, hl, q⟩
  · exact .inl ⟨a, xs, rfl, h, hl, q⟩
/-- for x in (a row that stands in slot i) -/
theorem for_row {K : PySem.W.Frag} {a : Addr} {xs : List V} {g : TG} {tb : TS} {D : Ends} {σ : L2.St} {Hb H : Hp} {j : Nat} (hv : σ[j]? = some (some (.ref a))) (hr : Row K Hb a xs) (hb : Same Hb H) (Pv : Nat → L2.St → Hp → Prop) (h0 : Pv 0 σ H) (hl : ∀ i σ H', i ≤ xs.length → Pv i σ H' → Same Hb H')
    (hs : ∀ i x σ H, xs[i]? = some x → Pv i σ H → g x σ H fun σ2 H2 => tb { D with nx := Pv (i + 1), ct := Pv (i + 1), bk := D.nx } σ2 H2) (hd : ∀ σ H, Pv xs.length σ H → D.nx σ H) :
    tFor (iSeq K (tVar j)) g tb D σ H := by
  rcases hr with hr | hr
  · exact .inl ⟨_, hv, a, rfl, ⟨_, hb.seq hr⟩, for_list (K := K) (a := a) (xs := xs) Pv h0 (fun i σ H' hi p => (hl i σ H' hi p).seq hr) hs hd⟩
  · exact .inr ⟨_, hv, a, rfl, ⟨_, sameT hb hr⟩, for_tup (K := K) (a := a) (xs := xs) Pv h0 (fun i σ H' hi p => sameT (hl i σ H' hi p) hr) hs hd⟩
/-! ### the same rules with the written part named, for use within comprehensions -/
section
variable {X : Cx} {pos : Pos} (K : PySem.W.Frag)
def rLenA (K : PySem.W.Frag) : List V → Hp → VK → Prop := fun xs H Q => (∃ p ys, xs = [.ref p] ∧ (SqL K H p ys ∨ SqT K H p ys) ∧ Q (.int ys.length) H) ∨ (∃ z, xs = [.str z] ∧ z.length ≤ sizeLine ∧ Q (.int z.length) H)
theorem ix_seqK (hK : X.K = K := by rfl) : IxR X (rIx K) := hK ▸ ix_seq
theorem call_lenK (hK : X.K = K := by rfl) : CallR X (.builtin "len") (rLenA K) := hK ▸ call_lenA
theorem pg_tupK {es : List PySem.Expr} {k : Nat} {t : TGs} {n : Nat} (hc : X.calm = true) (h : PGs X es t)
    (hn : (assignEach es X.env).length = n := by rfl) (hst : (assignEach es X.env).findIdx? (·.1) = none := by rfl) (hK : X.K = K := by rfl) : PG X (.Tuple es k pos) (gTup K n t) := hK ▸ pg_tup hc h hn hst
theorem pg_seqK {es : List PySem.Expr} {k : Nat} {t : TGs} {n : Nat} (hc : X.calm = true) (h : PGs X es t)
    (hn : (assignEach es X.env).length = n := by rfl) (hst : (assignEach es X.env).findIdx? (·.1) = none := by rfl) (hK : X.K = K := by rfl) : PG X (.Tuple es k pos) (gSeq K n t) := hK ▸ pg_seq hc h hn hst
end

/-! ### loops and comprehensions, folded -/
def ForGo (J : It) (g : TG) (tb : TS) (D : Ends) (σ : L2.St) (H : Hp) : Prop := ∃ W : Nat → Nat → L2.St → Hp → Prop, (∃ m, W 0 m σ H) ∧ ∀ i m σ H, W i m σ H →
  (J.stop i H ∧ D.nx σ H) ∨ (J.go i H ∧ ∃ N : L2.St → Hp → Prop, (∀ σ' H', N σ' H' → ∃ m', m' < m ∧ W (i + 1) m' σ' H') ∧ ∀ x H', J.yld i H x H' → g x σ H' fun σ2 H2 => tb { D with nx := N, ct := N, bk := D.nx } σ2 H2)
def LcGo (J : It) (g : TG) (tt : TT) (te : TE) (vs : List Nat) (σ : L2.St) (H1 : Hp) (D : Addr) (Q : VK) : Prop := ∃ W : Nat → Nat → Hp → Prop, (∃ m, W 0 m (upd H1 D (.lst []))) ∧ ∀ i m H, W i m H →
  (J.stop i H ∧ Q (.ref D) H) ∨ (J.go i H ∧ ∃ Nx : Hp → Prop, (∀ H', Nx H' → ∃ m', m' < m ∧ W (i + 1) m' H') ∧ ∀ x H', J.yld i H x H' → g x (wipe σ vs) H' fun σ2 H2 => wipe σ2 vs = wipe σ vs ∧ tt σ2 H2 fun b H3 =>
    if b = true then te σ2 H3 fun y H4 => ∃ acc, H4 D = some (.lst acc) ∧ acc.length < sizeLine ∧ Nx (upd H4 D (.lst (acc ++ [y]))) else Nx H3)
section
variable {K : PySem.W.Frag} {ta : TA} {tl : TE} {g : TG} {tb : TS} {D : Ends} {σ : L2.St} {H : Hp} {tt : TT} {te : TE} {vs : List Nat} {Q : VK}
theorem fr_rng1 (h : ta σ H fun us H1 => ∃ j : Int, us = [.int j] ∧ -(2 ^ 62) ≤ j ∧ j < 2 ^ 62 ∧ ForGo (Itr 0 j.toNat) g tb D σ H1) : tFor (iRng1 ta) g tb D σ H := h
theorem fr_rng2 (h : ta σ H fun us H1 => ∃ i j : Int, us = [.int i, .int j] ∧ (-(2 ^ 62) ≤ i ∧ i < 2 ^ 62 ∧ -(2 ^ 62) ≤ j ∧ j < 2 ^ 62) ∧ ForGo (Itr i (j - i).toNat) g tb D σ H1) : tFor (iRng2 ta) g tb D σ H := h
theorem fr_rng2L (h : ta σ H fun us H1 => ∃ i j : Int, us = [.int i, .int j] ∧ ForGo (Itr i (j - i).toNat) g tb D σ H1) : tFor (iRng2L ta) g tb D σ H := h
theorem fr_list (h : tl σ H fun x H1 => ∃ a, x = .ref a ∧ (∃ xs, SqL K H1 a xs) ∧ ForGo (Itl K a) g tb D σ H1) : tFor (iList K tl) g tb D σ H := h
theorem fr_str (h : tl σ H fun v H1 => ∃ x, v = .str x ∧ ForGo (Its x) g tb D σ H1) : tFor (iStr tl) g tb D σ H := h
theorem lc_rng1 (h : ta σ H fun us H1 => ∃ j : Int, us = [.int j] ∧ -(2 ^ 62) ≤ j ∧ j < 2 ^ 62 ∧ ∀ D, H1 D = none → LcGo (Itr 0 j.toNat) g tt te vs σ H1 D Q) : tLc (iRng1 ta) g tt te vs σ H Q := h
theorem lc_rng2 (h : ta σ H fun us H1 => ∃ i j : Int, us = [.int i, .int j] ∧ (-(2 ^ 62) ≤ i ∧ i < 2 ^ 62 ∧ -(2 ^ 62) ≤ j ∧ j < 2 ^ 62) ∧ ∀ D, H1 D = none → LcGo (Itr i (j - i).toNat) g tt te vs σ H1 D Q) : tLc (iRng2 ta) g tt te vs σ H Q := h
theorem lc_rng2L (h : ta σ H fun us H1 => ∃ i j : Int, us = [.int i, .int j] ∧ ∀ D, H1 D = none → LcGo (Itr i (j - i).toNat) g tt te vs σ H1 D Q) : tLc (iRng2L ta) g tt te vs σ H Q := h
theorem lc_lst (h : tl σ H fun x H1 => ∃ a, x = .ref a ∧ (∃ xs, SqL K H1 a xs) ∧ ∀ D, H1 D = none → LcGo (Itl K a) g tt te vs σ H1 D Q) : tLc (iList K tl) g tt te vs σ H Q := h
theorem lc_str (h : tl σ H fun v H1 => ∃ x, v = .str x ∧ ∀ D, H1 D = none → LcGo (Its x) g tt te vs σ H1 D Q) : tLc (iStr tl) g tt te vs σ H Q := h

theorem ForGo.range {lo : Int} {n : Nat} (Pv : Nat → L2.St → Hp → Prop) (h0 : Pv 0 σ H)
    (hs : ∀ i σ H, i < n → Pv i σ H → g (.int (lo + i)) σ H fun σ2 H2 => tb { D with nx := Pv (i + 1), ct := Pv (i + 1), bk := D.nx } σ2 H2) (hd : ∀ σ H, Pv n σ H → D.nx σ H) : ForGo (Itr lo n) g tb D σ H := for_range Pv h0 hs hd
theorem ForGo.list {a : Addr} {xs : List V} (Pv : Nat → L2.St → Hp → Prop) (h0 : Pv 0 σ H) (hl : ∀ i σ H, i ≤ xs.length → Pv i σ H → SqL K H a xs)
    (hs : ∀ i x σ H, xs[i]? = some x → Pv i σ H → g x σ H fun σ2 H2 => tb { D with nx := Pv (i + 1), ct := Pv (i + 1), bk := D.nx } σ2 H2) (hd : ∀ σ H, Pv xs.length σ H → D.nx σ H) : ForGo (Itl K a) g tb D σ H := for_list Pv h0 hl hs hd
theorem LcGo.range {lo : Int} {n : Nat} {D : Addr} (Pv : Nat → Hp → Prop) (h0 : Pv 0 (upd H D (.lst [])))
    (hs : ∀ i H, i < n → Pv i H → g (.int (lo + i)) (wipe σ vs) H fun σ2 H2 => wipe σ2 vs = wipe σ vs ∧ tt σ2 H2 fun b H3 =>
      if b = true then te σ2 H3 fun y H4 => ∃ acc, H4 D = some (.lst acc) ∧ acc.length < sizeLine ∧ Pv (i + 1) (upd H4 D (.lst (acc ++ [y]))) else Pv (i + 1) H3) (hd : ∀ H, Pv n H → Q (.ref D) H) : LcGo (Itr lo n) g tt te vs σ H D Q := L2.lc_range (lo := lo) (n := n) Pv h0 hs hd
theorem LcGo.list {a D : Addr} {xs : List V} (Pv : Nat → Hp → Prop) (h0 : Pv 0 (upd H D (.lst []))) (hl : ∀ i H, i ≤ xs.length → Pv i H → SqL K H a xs)
    (hs : ∀ i x H, xs[i]? = some x → Pv i H → g x (wipe σ vs) H fun σ2 H2 => wipe σ2 vs = wipe σ vs ∧ tt σ2 H2 fun b H3 =>
      if b = true then te σ2 H3 fun y H4 => ∃ acc, H4 D = some (.lst acc) ∧ acc.length < sizeLine ∧ Pv (i + 1) (upd H4 D (.lst (acc ++ [y]))) else Pv (i + 1) H3) (hd : ∀ H, Pv xs.length H → Q (.ref D) H) : LcGo (Itl K a) g tt te vs σ H D Q := L2.lc_list Pv h0 hl hs hd
theorem LcGo.str {z : Str} {D : Addr} (Pv : Nat → Hp → Prop) (h0 : Pv 0 (upd H D (.lst [])))
    (hs : ∀ i c H, z.cps[i]? = some c → Pv i H → g (.str ⟨#[c]⟩) (wipe σ vs) H fun σ2 H2 => wipe σ2 vs = wipe σ vs ∧ tt σ2 H2 fun b H3 =>
      if b = true then te σ2 H3 fun y H4 => ∃ acc, H4 D = some (.lst acc) ∧ acc.length < sizeLine ∧ Pv (i + 1) (upd H4 D (.lst (acc ++ [y]))) else Pv (i + 1) H3) (hd : ∀ H, Pv z.cps.size H → Q (.ref D) H) : LcGo (Its z) g tt te vs σ H D Q := by
  refine ⟨fun i m H => m = z.cps.size - i ∧ i ≤ z.cps.size ∧ Pv i H, ⟨z.cps.size, by simp, Nat.zero_le _, h0⟩, ?_⟩
  rintro i m H ⟨rfl, hi, p⟩
  by_cases hlt : i < z.cps.size
  · refine .inr ⟨hlt, Pv (i + 1), fun H' p' => ⟨z.cps.size - (i + 1), by omega, rfl, hlt, p'⟩, fun x H' y => ?_⟩
    obtain ⟨e, c, hc, rfl⟩ := y
    subst e
    exact hs i c _ hc p
  · have e : i = z.cps.size := by omega
    subst e
    exact .inl ⟨Nat.le_refl _, hd H p⟩
end
end BK

namespace BK
open PySem PySem.Spec PyProof.Rows L2

/-! ## del xs[a:] -/
theorem keep_from {α : Type} (a : Nat) : ∀ (xs : List α) (j n : Nat), xs.length + j ≤ n → (xs.zipIdx j).filterMap (fun (p : α × Nat) => if (decide (a ≤ p.2) && decide (p.2 < n)) = true then none else some p.1) = xs.take (a - j)
  | [], j, n, _ => by simp
  | x :: r, j, n, h => by
    rw [List.zipIdx_cons, List.filterMap_cons]
    have hn : j < n := by simp at h; omega
    have ih := keep_from a r (j + 1) n (by simp at h; omega)
    by_cases hj : a ≤ j
    · simp only [hj, hn, decide_true, Bool.and_self, if_true]
      rw [ih, show a - j = 0 by omega, show a - (j + 1) = 0 by omega]
      simp
    · simp only [hj, decide_false, Bool.false_and, Bool.false_eq_true, if_false]
      rw [ih, show a - j = (a - (j + 1)) + 1 by omega, List.take_succ_cons]
theorem pick_take {sel : Nat → Bool} {a n : Nat} (hs : ∀ k, sel k = (decide (a ≤ k) && decide (k < n))) (its : List Value) (hn : its.length = n) :
    (its.toArray.toList.zipIdx.filterMap fun (x : Value × Nat) => if sel x.2 = true then none else some x.1).toArray = (its.take a).toArray := by
  have e : (fun (x : Value × Nat) => if sel x.2 = true then none else some x.1) = fun (x : Value × Nat) => if (decide (a ≤ x.2) && decide (x.2 < n)) = true then none else some x.1 := funext fun x => by rw [hs]
  rw [e, show its.toArray.toList = its by simp, keep_from a its 0 n (by omega), Nat.sub_zero]
section
variable {prog : Program} {w : World} {A : Around} {E : Value → Shared → Prop} {s : Shared}
set_option maxRecDepth 100000 in
/-- a list's slice without end and step, deleted -/
theorem delItem_from {l sl : Addr} {its : List Value} {n : Nat} {vl : Value} {lo : Option Int} {Q : Unit → Shared → Prop}
    (e : s.heap.get? l = some { cls := .type "list", data := .seq its.toArray n })
    (hs : s.heap.IsSliceOf sl vl .none .none) (pl : IsPart vl lo) (hsz : its.length ≤ sizeLine)
    (h : ∀ f : Array Value → Array Value, f its.toArray = (its.take (HT.sIx its.length 0 lo)).toArray → Q () { s with heap := s.heap.update l (Obj.mapSeq f) }) :
    wpAny (model prog w) A (delItem (.ref l) (.ref sl)) Q E s := by
  have hl : s.heap.IsList l its.toArray := PySem.IsL.isList e
  obtain ⟨os, hos, hcs, hds⟩ := id hs
  have hTs : s.TypeIs (.ref sl) "slice" := ⟨os, hos, hcs⟩
  have hstep : ¬ ((rawPart none == rawInt 0) = true) := Bool.false_ne_true
  refine wpAny_delItem_slot hl.typeIs (by decide) PySem.F.slot_list_delitem ?_
  refine wpAny_call_entry PySem.F.slot_list_delitem hl.typeIs PySem.F.entry_list_delitem ?_ (PySem.F.args_list_delitem_2 _ _)
  refine wpAny_bind (m := slotArgs "__delitem__" 1 _) (wpAny_pure ?_)
  refine wpAny_bind (m := Builtin.List.listSubscript? (.ref sl)) ?_
  unfold Builtin.List.listSubscript?
  refine wpAny_bind (wpAny_specialOf hTs slice_no_index ?_)
  simp only [Option.isNone_none, if_true]
  refine wpAny_pure ?_
  show wpAny _ _ (typeOf (.ref sl) >>= _) _ _ s
  refine wpAny_bind (wpAny_typeOf hTs ?_)
  first
    | rw [if_neg (by decide)]
    | refine PySem.W.KFB.if_not (by decide) ?_
  rw [listSliceParts_eq]
  refine wpAny_bind (wpAny_bind (wpAny_field hos hds (x := .none) rfl (wpAny_bind (wpAny_listPart .none ?_))))
  rw [if_neg hstep]
  refine wpAny_bind (wpAny_field hos hds (x := vl) rfl (wpAny_bind (wpAny_listPart pl ?_)))
  refine wpAny_bind (wpAny_field hos hds (x := .none) rfl (wpAny_bind (wpAny_listPart .none (wpAny_pure ?_))))
  refine wpAny_bind (m := Builtin.List.listItems (.ref l)) ?_
  unfold Builtin.List.listItems
  refine wpAny_bind (wpAny_seqItems e rfl (wpAny_pure ?_))
  have hb : sliceBounds lo none none its.toArray.size = (((HT.sIx its.length 0 lo : Nat) : Int), (((its.length : Nat) : Int), (1 : Int))) := by
    obtain ⟨h1, h2, h3⟩ := slice_bounds lo none its.toArray.size
    have e1 : its.toArray.size = its.length := List.size_toArray
    rw [e1] at h1 h2 h3 ⊢
    have h2' : (sliceBounds lo none none its.length).2.1 = ((its.length : Nat) : Int) := by rw [h2]; rfl
    exact Prod.ext h1 (Prod.ext h2' h3)
  refine wpAny_bind (wpAny_of_eq ((sliceIndices_raw lo none none its.toArray.size (by simp)).trans (congrArg (pure : Int × Int × Int → Sem (Int × Int × Int)) hb)) ?_)
  refine wpAny_bind (m := rule "list.__delitem__.slice") (wpAny_rule ?_)
  have pk := fun (sel : Nat → Bool) hs => pick_take (sel := sel) (a := HT.sIx its.length 0 lo) (n := its.length) hs its rfl
  refine wpAny_bind (m := updateSeq l _) (wpAny_updateSeq (hz := by rw [List.size_toArray]; exact hsz) (_hz' := ?_) e rfl ?_)
  rotate_left
  · refine Nat.le_trans (Nat.le_of_eq (congrArg Array.size (pk _ fun k => ?_))) ?_
    · show (decide (((HT.sIx its.length 0 lo : Nat) : Int) ≤ (k : Int)) && decide ((k : Int) < ((its.length : Nat) : Int)) && (((k : Int) - ((HT.sIx its.length 0 lo : Nat) : Int)) % 1 == 0)) = _
      rw [Int.emod_one]
      simp
    · rw [List.size_toArray, List.length_take]
      omega
  refine wpAny_bind (wpAny_letGo ?_)
  refine wpAny_pure ⟨_, rfl, h _ (pk _ fun k => ?_)⟩
  show (decide (((HT.sIx its.length 0 lo : Nat) : Int) ≤ (k : Int)) && decide ((k : Int) < ((its.length : Nat) : Int)) && (((k : Int) - ((HT.sIx its.length 0 lo : Nat) : Int)) % 1 == 0)) = _
  rw [Int.emod_one]
  simp
end
section
variable {X : Cx}
theorem del_slice {pins : List (Addr × Obj)} {s : Shared} {σ : L2.St} {H : Hp} {l sl : Addr} {xs : List V} {vl : Value} {lo : Option Int} {Q : Unit → Shared → Prop} (I : L2.Inv X pins σ H s)
    (hH : H l = some (.lst xs)) (hs : s.heap.IsSliceOf sl vl .none .none) (pl : IsPart vl lo)
    (h : ∀ s', L2.Inv X pins σ (upd H l (.lst (xs.take (HT.sIx xs.length 0 lo)))) s' → Q () s') :
    wpAny (model X.prog X.w) X.A (delItem (.ref l) (.ref sl)) Q X.xe s := by
  obtain ⟨z, its, n, r, hl, e⟩ := I.lstM hH
  refine delItem_from e hs pl (by omega) fun f hf => h _ ?_
  refine I.lset (its' := its.take (HT.sIx its.length 0 lo)) (t' := s.toks) hH e hf (by rw [← hl]; exact r.take _) ?_
  rw [List.length_take]
  omega
/-- del xs[a:] of a list -/
def tDelS (to : TE) (tl : TO) : TS := fun D σ H => to σ H fun x H1 => tl σ H1 fun lo H2 => ∃ (l : Addr) (xs : List V), x = .ref l ∧ H2 l = some (.lst xs) ∧ D.nx σ (upd H2 l (.lst (xs.take (HT.sIx xs.length 0 lo))))
theorem ps_delS {o : Expr} {lo : Option Expr} {to : TE} {tl : TO} {p2 tpos pos : Pos} (ho : PE X o to) (hl : PO X lo tl) : PS X (.Delete [.Subscript o (.Slice lo none none p2) tpos] pos) (tDelS to tl) := by
  refine ⟨fun pins s σ H D I h => ?_⟩
  refine wpAny_Delete (wpAny_deleteEach_cons (wpAny_delete_Subscript (thn (ho.run pins s σ H _ I h) fun u s1 ⟨x, H1, I1, rx, q1⟩ => ?_)))
  refine wpAny_Slice (thn (hl.run pins s1 σ H1 _ I1 q1) fun vl s2 ⟨l, H2, I2, pl, q2⟩ => ?_)
  rw [evalPart_none]
  refine wpAny_pure ?_
  refine wpAny_pure ?_
  obtain ⟨b, xs, ex, hH, q2⟩ := q2
  subst ex
  cases (show u = Value.ref b from rx)
  have I4 : L2.Inv X pins σ H2 { s2 with heap := s2.heap.push { cls := .type "slice", data := .fields #[vl, .none, .none] } } := I2.kept (t' := s2.toks) fun b ob q => Heap.get?_push_of_some _ q
  exact del_slice I4 hH (Heap.IsSliceOf.new ..) pl fun s3 I3 => wpAny_deleteEach_nil ⟨σ, _, I3, q2⟩
end
end BK

namespace BK
open PySem PySem.Spec PyProof.Rows L2 Builtin Builtin.Str

/-! ### texts as lists of codes -/
def tx (w : List Nat) : Str := ⟨w.toArray⟩
theorem tx_cps (w : List Nat) : (tx w).cps.toList = w := by unfold tx; simp
theorem tx_len (w : List Nat) : (tx w).length = w.length := by unfold tx; simp [Str.length]
theorem tx_inj {a b : List Nat} (h : tx a = tx b) : a = b := by
  have := congrArg (fun z : Str => z.cps.toList) h
  simpa [tx_cps] using this
theorem tx_of (z : Str) : tx z.cps.toList = z := Str.ext' (by unfold tx; simp)
theorem tx_ext {z : Str} {w : List Nat} (h : z.cps.toList = w) : z = tx w := by rw [← h, tx_of]
theorem tx_app (a b : List Nat) : tx a ++ tx b = tx (a ++ b) := tx_ext (by rw [Str.cps_append, Array.toList_append, tx_cps, tx_cps])
theorem tx_eq (a b : List Nat) : (V.str (tx a) = V.str (tx b)) ↔ a = b := ⟨fun h => tx_inj (V.str.inj h), fun h => by rw [h]⟩
theorem tx_one (c : Nat) : tx [c] = ⟨#[c]⟩ := rfl
theorem tx_nil : tx [] = "" := rfl

theorem cut_nn (w : List Nat) (i j : Nat) : cutS (tx w) (some (i : Int)) (some (j : Int)) = tx ((w.drop i).take (j - i)) := by
  refine tx_ext ?_
  unfold cutS
  rw [HT.sIx_nat, HT.sIx_nat, tx_cps, tx_len, List.toList_toArray]
  by_cases hi : i ≤ w.length
  · rw [Nat.min_eq_left hi]
    by_cases hj : j ≤ w.length
    · rw [Nat.min_eq_left hj]
    · rw [Nat.min_eq_right (by omega), List.take_of_length_le (by rw [List.length_drop]; omega), List.take_of_length_le (by rw [List.length_drop]; omega)]
  · rw [Nat.min_eq_right (show w.length ≤ i by omega), List.drop_length, List.drop_eq_nil_of_le (by omega), List.take_nil, List.take_nil]
theorem cut_n_ (w : List Nat) (i : Nat) : cutS (tx w) (some (i : Int)) none = tx (w.drop i) := by
  refine tx_ext ?_
  unfold cutS
  rw [HT.sIx_nat, HT.sIx_none, tx_cps, tx_len, List.toList_toArray]
  by_cases hi : i ≤ w.length
  · rw [Nat.min_eq_left hi, List.take_of_length_le (by rw [List.length_drop]; omega)]
  · rw [Nat.min_eq_right (by omega), List.drop_length, List.drop_eq_nil_of_le (by omega), List.take_nil]
theorem cut__n (w : List Nat) (j : Nat) : cutS (tx w) none (some (j : Int)) = tx (w.take j) := by
  refine tx_ext ?_
  unfold cutS
  rw [HT.sIx_nat, HT.sIx_none, tx_cps, tx_len, List.toList_toArray, List.drop_zero, Nat.sub_zero]
  by_cases hj : j ≤ w.length
  · rw [Nat.min_eq_left hj]
  · rw [Nat.min_eq_right (by omega), List.take_of_length_le (Nat.le_refl _), List.take_of_length_le (by omega)]

theorem foldl_app (l : List (List Nat)) : ∀ acc : Array Nat, ((l.map List.toArray).foldl (· ++ ·) acc).toList = acc.toList ++ l.flatten := by
  induction l with
  | nil => intro acc; simp
  | cons a l ih =>
    intro acc
    rw [List.map_cons, List.foldl_cons, ih, Array.toList_append, List.toList_toArray, List.flatten_cons, List.append_assoc]
theorem mul_tx (w : List Nat) (n : Nat) : Txt.mul (tx w) (n : Int) = tx (List.replicate n w).flatten := by
  refine tx_ext ?_
  unfold Txt.mul
  split
  · have : n = 0 := by omega
    subst this
    rfl
  · split
    · rename_i h1 h2
      rw [Bool.or_eq_true] at h2
      rcases h2 with h2 | h2
      · have : n = 1 := by have := eq_of_beq h2; omega
        subst this
        rw [tx_cps]
        simp
      · have : w = [] := by
          have := eq_of_beq h2
          rw [tx_len] at this
          exact List.eq_nil_of_length_eq_zero this
        subst this
        rw [tx_cps]
        simp
    · rw [Int.toNat_natCast]
      have e : List.replicate n (tx w).cps = (List.replicate n w).map List.toArray := by rw [List.map_replicate]; rfl
      show (List.foldl (· ++ ·) #[] (List.replicate n (tx w).cps)).toList = _
      rw [e, foldl_app]
      simp
theorem mul_ok {w : List Nat} {n : Nat} (L N : Nat) (h : w.length ≤ L) (hn : n ≤ N) (hN : N ≤ 16777216) (hL : L * N ≤ 16777216) : MulOk (tx w) (n : Int) :=
  mulOk_of L N (by rw [tx_len]; exact h) (by omega) (by omega) hN hL

theorem join_go : ∀ (ws : List (List Nat)) (acc : Array Nat), ((ws.map tx).foldl (fun acc p => acc ++ (tx []).cps ++ p.cps) acc).toList = acc.toList ++ ws.flatten
  | [], acc => by simp
  | a :: l, acc => by
    rw [List.map_cons, List.foldl_cons, join_go l, Array.toList_append, Array.toList_append, tx_cps, List.flatten_cons, tx_cps, List.append_nil, List.append_assoc]
theorem join_tx (ws : List (List Nat)) : Txt.join (tx []) (ws.map tx) = tx ws.flatten := by
  refine tx_ext ?_
  show (glued (tx []) (ws.map tx)).cps.toList = _
  unfold glued
  cases ws with
  | nil => rfl
  | cons a l =>
    show (((l.map tx)).foldl (fun acc p => acc ++ (tx []).cps ++ p.cps) (tx a).cps).toList = _
    rw [join_go, tx_cps, List.flatten_cons]

/-! ### how many of one sign -/
theorem sub_one (w : List Nat) (c i : Nat) : (i + (tx [c]).length ≤ (tx w).length ∧ subAt (tx w) (tx [c]) i = true) ↔ w[i]? = some c := by
  have h := StrLaws.subAt_one (tx w) c i
  rw [tx_cps] at h
  exact h
theorem occ_run (w : List Nat) (c : Nat) : ∀ (n i : Nat) (st : Array Nat × Nat), st.2 ≤ i → st.1.size ≤ i → i ≤ w.length →
    (forIn (List.range' i n) st (StrLaws.occBody (tx w) (tx [c]) (tx w).length ((tx w).length + 1))).run.1.size = st.1.size + ((w.drop i).take n).count c
  | 0, i, st, h1, h2, h3 => by simp
  | n + 1, i, st, h1, h2, h3 => by
    rw [List.range'_succ, List.forIn_cons]
    unfold StrLaws.occBody
    have hs := sub_one w c i
    by_cases hc : w[i]? = some c
    · have hq := hs.mpr hc
      have hlt : i < w.length := (List.getElem?_eq_some_iff.mp hc).1
      rw [if_pos ⟨⟨⟨by rw [tx_len]; omega, h1⟩, hq.1⟩, hq.2⟩]
      have ih := occ_run w c n (i + 1) (st.1.push i, i + (tx [c]).length) (by rw [tx_len]; exact Nat.le_refl _) (by rw [Array.size_push]; omega) hlt
      refine ih.trans ?_
      rw [Array.size_push, List.drop_eq_getElem_cons hlt, List.take_succ_cons, List.count_cons]
      have e : w[i] = c := (List.getElem?_eq_some_iff.mp hc).2
      rw [e, beq_self_eq_true, if_pos rfl]
      omega
    · rw [if_neg (fun z => hc (hs.mp ⟨z.1.2, z.2⟩))]
      by_cases hlt : i < w.length
      · have ih := occ_run w c n (i + 1) (st.1, st.2) (by show st.2 ≤ i + 1; omega) (by show st.1.size ≤ i + 1; omega) hlt
        refine ih.trans ?_
        rw [List.drop_eq_getElem_cons hlt, List.take_succ_cons, List.count_cons]
        have e : w[i] ≠ c := fun z => hc (by rw [List.getElem?_eq_getElem hlt, z])
        rw [beq_eq_false_iff_ne.mpr e, if_neg Bool.false_ne_true, Nat.add_zero]
        all_goals rfl
      · have e0 : ∀ (m j : Nat) (st : Array Nat × Nat), w.length ≤ j → (forIn (List.range' j m) st (StrLaws.occBody (tx w) (tx [c]) (tx w).length ((tx w).length + 1))).run.1.size = st.1.size := by
          intro m
          induction m with
          | zero => intro j st _; rfl
          | succ m ih =>
            intro j st hj
            rw [List.range'_succ, List.forIn_cons]
            unfold StrLaws.occBody
            rw [if_neg (fun z => by have := (sub_one w c j).mp ⟨z.1.2, z.2⟩; rw [List.getElem?_eq_none hj] at this; cases this)]
            exact ih (j + 1) (st.1, st.2) (by omega)
        refine (e0 n (i + 1) (st.1, st.2) (by omega)).trans ?_
        rw [List.drop_eq_nil_of_le (by omega), List.take_nil, List.count_nil, Nat.add_zero]
theorem count_tx (w : List Nat) (c : Nat) : Txt.count (tx w) (tx [c]) = (w.count c : Nat) := by
  unfold Txt.count
  rw [StrLaws.occ_eq, Array.length_toList]
  have h := occ_run w c ((tx w).length + 1 - 0) 0 (#[], 0) (Nat.le_refl _) (Nat.le_refl _) (Nat.zero_le _)
  rw [h, List.drop_zero, List.take_of_length_le (by rw [tx_len]; omega)]
  simp

/-! ### strip of signs -/
theorem takeWhile_all {p : Nat → Bool} : ∀ {l : List Nat}, l.all p = true → l.takeWhile p = l
  | [], _ => rfl
  | a :: l, h => by
    rw [List.all_cons, Bool.and_eq_true] at h
    rw [List.takeWhile_cons, if_pos h.1, takeWhile_all h.2]
theorem takeWhile_len {p : Nat → Bool} : ∀ (l : List Nat), l.all p = false → ∃ x, l[(l.takeWhile p).length]? = some x ∧ p x = false
  | [], h => by simp at h
  | a :: l, h => by
    rw [List.takeWhile_cons]
    by_cases ha : p a = true
    · rw [List.all_cons, ha, Bool.true_and] at h
      rw [if_pos ha]
      obtain ⟨x, h1, h2⟩ := takeWhile_len l h
      exact ⟨x, by rw [List.length_cons, List.getElem?_cons_succ]; exact h1, h2⟩
    · rw [if_neg ha]
      exact ⟨a, rfl, Bool.eq_false_iff.mpr ha⟩
theorem strip_iff (w y : List Nat) : (Txt.stripChars (tx w) (tx y) = tx []) ↔ w.all (y.contains ·) = true := by
  have hp : ∀ c, (tx y).cps.contains c = y.contains c := fun c => by unfold tx; simp
  have hp' : (tx y).cps.contains = fun c => y.contains c := funext hp
  unfold Txt.stripChars Txt.stripBy
  rw [hp']
  have hlo : stripLo (fun c => y.contains c) true (tx w) = (w.takeWhile fun c => y.contains c).length := by
    unfold stripLo
    rw [if_pos rfl, tx_cps]
  cases hall : w.all (y.contains ·) with
  | true =>
    have e := takeWhile_all (p := fun c => y.contains c) hall
    rw [e] at hlo
    refine ⟨fun _ => rfl, fun _ => ?_⟩
    by_cases hs : stripSame (fun c => y.contains c) true true (tx w) = true
    · rw [if_pos hs]
      unfold stripSame at hs
      rw [Bool.and_eq_true] at hs
      rw [hlo] at hs
      have : w.length = 0 := eq_of_beq hs.1
      rw [List.eq_nil_of_length_eq_zero this]
    · rw [if_neg hs]
      refine tx_ext ?_
      unfold stripped
      rw [hlo, StrLaws.strSub_toList, tx_cps, List.drop_length, List.take_nil]
  | false =>
    refine ⟨fun h => ?_, fun h => by cases h⟩
    exfalso
    obtain ⟨x, hx, hpx⟩ := takeWhile_len (p := fun c => y.contains c) w hall
    by_cases hs : stripSame (fun c => y.contains c) true true (tx w) = true
    · rw [if_pos hs] at h
      have : w = [] := tx_inj h
      subst this
      simp at hall
    · rw [if_neg hs] at h
      have h2 := congrArg (fun z : Str => z.cps.toList) h
      unfold stripped at h2
      simp only [StrLaws.strSub_toList, tx_cps, hlo] at h2
      have hlt : (w.takeWhile fun c => y.contains c).length < w.length := (List.getElem?_eq_some_iff.mp hx).1
      -- the right end lies behind x
      have hhi : (w.takeWhile fun c => y.contains c).length < stripHi (fun c => y.contains c) true (tx w) (w.takeWhile fun c => y.contains c).length := by
        unfold stripHi
        rw [if_pos rfl, tx_cps, tx_len]
        have hne : ((w.drop (w.takeWhile fun c => y.contains c).length).reverse).all (fun c => y.contains c) = false := by
          rw [List.all_reverse, List.drop_eq_getElem_cons hlt, List.all_cons]
          have e : w[(w.takeWhile fun c => y.contains c).length] = x := (List.getElem?_eq_some_iff.mp hx).2
          rw [e, hpx, Bool.false_and]
        obtain ⟨z, hz, _⟩ := takeWhile_len (p := fun c => y.contains c) _ hne
        have hl2 := (List.getElem?_eq_some_iff.mp hz).1
        rw [List.length_reverse, List.length_drop] at hl2
        omega
      have h3 := congrArg List.length h2
      rw [List.length_take, List.length_drop] at h3
      have hz : ([] : List Nat).length = 0 := rfl
      have hk : 0 < stripHi (fun c => y.contains c) true (tx w) (w.takeWhile fun c => y.contains c).length - (w.takeWhile fun c => y.contains c).length := by omega
      have h4 : (tx ([] : List Nat)).cps.toList.length = 0 := rfl
      have h5 : min (stripHi (fun c => y.contains c) true (tx w) (w.takeWhile fun c => y.contains c).length - (w.takeWhile fun c => y.contains c).length) (w.length - (w.takeWhile fun c => y.contains c).length) = 0 := h3
      omega
end BK

namespace BK
open PySem PySem.Spec PyProof.Rows L2

/-! ## list(text) -/
section
variable {X : Cx}
theorem signs_vals {x : Str} {acc : Array Value} (h : ItemsOf (SignAt x) acc x.cps.size) : Vals (x.cps.toList.map fun c => V.str (tx [c])) acc.toList := by
  refine vals_of_at ?_ fun j y u h1 h2 => ?_
  · rw [List.length_map, Array.length_toList, Array.length_toList, h.1]
  · obtain ⟨c, t, e1, e2⟩ := h.2 j u (by rw [← Array.getElem?_toList]; exact h2)
    rw [List.getElem?_map, Array.getElem?_toList, e1] at h1
    cases h1
    exact ⟨t, e2⟩
theorem call_listS (hc : X.calm = true) : CallR X (.type "list") (fun xs H Q => ∃ x : Str, xs = [.str x] ∧ x.cps.size ≤ sizeLine ∧ ∀ p, H p = none → Q (.ref p) (upd H p (.lst (x.cps.toList.map fun c => V.str (tx [c]))))) := by
  intro pins s σ H xs us Q I r h
  obtain ⟨x, e, hz, q⟩ := h
  subst e
  obtain ⟨u, eu, rx⟩ := vals1 r
  subst eu
  obtain ⟨t, rfl⟩ := rx
  refine call_list_str (I.ok.hd hc) x t (fun h' tk acc c' hk hD hacc => ?_) hz
  refine ⟨.ref s.heap.objs.size, upd H s.heap.objs.size (.lst (x.cps.toList.map fun c => V.str (tx [c]))), I.laid (t' := tk) hk (Nat.le_refl _)
    (show ObjOk X.prog X.w _ _ _ (.lst (x.cps.toList.map fun c => V.str (tx [c]))) from ⟨by rw [List.length_map, Array.length_toList]; exact hz, acc.toList, c', signs_vals hacc, by rw [Array.toArray_toList]; exact hD⟩), rfl, q _ (I.hok.fresh (Nat.le_refl _))⟩
end

/-! ## a dict of the module: texts by texts -/
def dtx (e : DictEntry) : Option (Str × Str) := match e.key, e.val with
  | .str x _, .str y _ => some (x, y)
  | _, _ => none
structure SDict (K : PySem.W.Frag) (w : World) (mg : Str → Option Value) (x : Str) (ps : List (Str × Str)) : Type where
  d : Addr
  es : Array DictEntry
  n : Nat
  g : mg x = some (.ref d)
  k : KDict K w d es n
  e : es.toList.map dtx = ps.map some
theorem dtx_find (z : Str) : ∀ (es : List DictEntry) (ps : List (Str × Str)), es.map dtx = ps.map some →
    (ps.lookup z = none → es.find? (·.key.isStr z) = none ∧ es.any (·.refKey) = false) ∧ (∀ y, ps.lookup z = some y → ∃ e t, es.find? (·.key.isStr z) = some e ∧ e.val = .str y t)
  | [], [], _ => ⟨fun _ => ⟨rfl, rfl⟩, fun y h => by cases h⟩
  | [], _ :: _, h => by cases h
  | _ :: _, [], h => by cases h
  | e :: es, p :: ps, h => by
    obtain ⟨h1, h2⟩ := List.cons.inj h
    have ih := dtx_find z es ps h2
    obtain ⟨a, b⟩ := p
    unfold dtx at h1
    split at h1
    · rename_i x t y t2 k1 k2
      have e3 := Option.some.inj h1
      obtain ⟨rfl, rfl⟩ := Prod.mk.inj e3
      have hk : e.key.isStr z = (x == z) := by rw [k1]; rfl
      have hr : e.refKey = false := by unfold DictEntry.refKey; rw [k1]
      by_cases hz : z = x
      · subst hz
        refine ⟨fun hh => ?_, fun y' hy => ?_⟩
        · rw [List.lookup_cons_self] at hh
          cases hh
        · rw [List.lookup_cons_self] at hy
          cases hy
          refine ⟨e, t2, ?_, k2⟩
          rw [List.find?_cons, hk]
          simp
      · have hb : (z == x) = false := beq_eq_false_iff_ne.mpr hz
        have hb2 : (x == z) = false := beq_eq_false_iff_ne.mpr fun q => hz q.symm
        refine ⟨fun hh => ?_, fun y' hy => ?_⟩
        · rw [List.lookup_cons, hb] at hh
          obtain ⟨i1, i2⟩ := ih.1 hh
          rw [List.find?_cons, hk, hb2, List.any_cons, hr]
          exact ⟨i1, i2⟩
        · rw [List.lookup_cons, hb] at hy
          obtain ⟨e', t', i1, i2⟩ := ih.2 y' hy
          refine ⟨e', t', ?_, i2⟩
          rw [List.find?_cons, hk, hb2]
          exact i1
    · cases h1
theorem SDict.none {K : PySem.W.Frag} {w : World} {mg : Str → Option Value} {x : Str} {ps : List (Str × Str)} (D : SDict K w mg x ps) {z : Str} (h : ps.lookup z = .none) : PySem.W.nsIn K D.d z = some .none := by
  obtain ⟨h1, h2⟩ := (dtx_find z _ _ D.e).1 h
  unfold PySem.W.nsIn
  rw [D.k.at_]
  dsimp only
  rw [h1]
  dsimp only
  rw [h2]
  rfl
theorem SDict.some {K : PySem.W.Frag} {w : World} {mg : Str → Option Value} {x : Str} {ps : List (Str × Str)} (D : SDict K w mg x ps) {z y : Str} (h : ps.lookup z = .some y) : ∃ t, PySem.W.nsIn K D.d z = some (.some (.str y t)) := by
  obtain ⟨e, t, h1, h2⟩ := (dtx_find z _ _ D.e).2 y h
  refine ⟨t, ?_⟩
  unfold PySem.W.nsIn
  rw [D.k.at_]
  dsimp only
  rw [h1]
  dsimp only
  rw [h2]
section
variable {X : Cx} {x : Str} {ps : List (Str × Str)}
theorem pe_sd {pos : Pos} (D : SDict X.K X.w X.mg x ps) (hg : Gl X x) (hd : (x == ("__debug__" : Str)) = false) : PE X (.Name x pos) (tC (.ref D.d)) := pe_glob hg D.g rfl hd
theorem op_in_sd (D : SDict X.K X.w X.mg x ps) : OpR X (compareOp .In) (fun a b H Q => ∃ z : Str, a = .str z ∧ b = .ref D.d ∧ Q (.bl (ps.lookup z).isSome) H) := by
  intro pins s σ H a b v u Q I rx ry h
  obtain ⟨z, e1, e2, q⟩ := h
  cases hl : ps.lookup z with
  | none =>
    rw [hl] at q
    exact op_in_kd D.k pins s σ H a b v u Q I rx ry ⟨z, .none, e1, e2, D.none hl, q⟩
  | some y =>
    rw [hl] at q
    obtain ⟨t, e⟩ := D.some hl
    exact op_in_kd D.k pins s σ H a b v u Q I rx ry ⟨z, _, e1, e2, e, q⟩
def oV : Option Str → V
  | none => .non
  | some y => .str y
def tSGet (d : Addr) (ps : List (Str × Str)) (to te : TE) : TE := fun σ H Q => to σ H fun x H1 => x = .ref d ∧ te σ H1 fun y H2 => ∃ z : Str, y = .str z ∧ Q (oV (ps.lookup z)) H2
theorem pe_sget {o e : Expr} {to te : TE} {apos cpos : Pos} (D : SDict X.K X.w X.mg x ps) (ho : PE X o to) (he : PE X e te) (m : M1 X o "get" apos e cpos) : PE X (.Call (.Attribute o "get" apos) [e] [] cpos) (tSGet D.d ps to te) := by
  refine ⟨fun pins s σ H Q I h => ?_⟩
  refine wpAny_Call_method m.base m.few m.line PySem.F.plainAttrs_dict PySem.F.slot_dict_get PySem.F.type_dict_get (thn (ho.run pins s σ H _ I h) fun u s1 ⟨x, H1, I1, rx, ex, q1⟩ => ?_)
  subst ex
  obtain rfl : u = Value.ref D.d := rx
  have hm0 := PySem.W.mapOf_K (prog := X.prog) (w := X.w) I1.kIn D.k.at_ D.k.lit
  refine ⟨hm0.typeIs, fun b e => ?_, ?_⟩
  · cases e
    exact ⟨_, I1.kIn _ _ D.k.at_, rfl⟩
  rw [m.trees]
  refine wpAny_dict_get1 (knd := PySem.strKind X.prog X.w) D.k.low (thn (he.run pins s1 σ H1 _ I1 q1) fun iv s2 ⟨y, H2, I2, ry, z, ey, q2⟩ => ?_)
  subst ey
  obtain ⟨t, rfl⟩ := ry
  refine ⟨z, _, PySem.strKind_is X.prog X.w z t, PySem.W.mapOf_K (prog := X.prog) (w := X.w) I2.kIn D.k.at_ D.k.lit, ?_⟩
  cases hl : ps.lookup z with
  | none =>
    rw [PySem.W.find_K D.k.at_ (D.none hl)]
    rw [hl] at q2
    exact ⟨.non, H2, I2.tok _, rfl, q2⟩
  | some y =>
    obtain ⟨t2, e⟩ := D.some hl
    rw [PySem.W.find_K D.k.at_ e]
    rw [hl] at q2
    exact ⟨.str y, H2, I2.tok _, ⟨t2, rfl⟩, q2⟩
end
theorem SDict.at {K : PySem.W.Frag} {w : World} {mg : Str → Option Value} {x : Str} {ps : List (Str × Str)} (D : SDict K w mg x ps) {z y : Str} (h : ps.lookup z = .some y) : KDct K w D.d z (.str y) := by
  obtain ⟨t, e⟩ := D.some h
  exact ⟨D.es, D.n, _, D.k.at_, D.k.lit, e, t, rfl⟩
/-! ## a dict of the module: texts by numbers -/
def dti (e : DictEntry) : Option (Str × Int) := match e.key, e.val with
  | .str x _, .int y _ => some (x, y)
  | _, _ => none
structure IDict (K : PySem.W.Frag) (w : World) (mg : Str → Option Value) (x : Str) (ps : List (Str × Int)) : Type where
  d : Addr
  es : Array DictEntry
  n : Nat
  g : mg x = some (.ref d)
  k : KDict K w d es n
  e : es.toList.map dti = ps.map some
theorem dti_find (z : Str) (y : Int) : ∀ (es : List DictEntry) (ps : List (Str × Int)), es.map dti = ps.map some → ps.lookup z = some y → ∃ e t, es.find? (·.key.isStr z) = some e ∧ e.val = .int y t
  | [], [], _, h => by cases h
  | [], _ :: _, h, _ => by cases h
  | _ :: _, [], h, _ => by cases h
  | e :: es, p :: ps, h, hy => by
    obtain ⟨h1, h2⟩ := List.cons.inj h
    obtain ⟨a, b⟩ := p
    unfold dti at h1
    split at h1
    · rename_i x t y' t2 k1 k2
      obtain ⟨rfl, rfl⟩ := Prod.mk.inj (Option.some.inj h1)
      have hk : e.key.isStr z = (x == z) := by rw [k1]; rfl
      by_cases hz : z = x
      · subst hz
        rw [List.lookup_cons_self] at hy
        cases hy
        refine ⟨e, t2, ?_, k2⟩
        rw [List.find?_cons, hk]
        simp
      · have hb : (z == x) = false := beq_eq_false_iff_ne.mpr hz
        have hb2 : (x == z) = false := beq_eq_false_iff_ne.mpr fun q => hz q.symm
        rw [List.lookup_cons, hb] at hy
        obtain ⟨e', t', i1, i2⟩ := dti_find z y es ps h2 hy
        refine ⟨e', t', ?_, i2⟩
        rw [List.find?_cons, hk, hb2]
        exact i1
    · cases h1
theorem IDict.at {K : PySem.W.Frag} {w : World} {mg : Str → Option Value} {x : Str} {ps : List (Str × Int)} (D : IDict K w mg x ps) {z : Str} {y : Int} (h : ps.lookup z = .some y) : KDct K w D.d z (.int y) := by
  obtain ⟨e, t, h1, h2⟩ := dti_find z y _ _ D.e h
  refine ⟨D.es, D.n, .int y t, D.k.at_, D.k.lit, ?_, t, rfl⟩
  unfold PySem.W.nsIn
  rw [D.k.at_]
  dsimp only
  rw [h1]
  dsimp only
  rw [h2]
theorem pe_id {X : Cx} {x : Str} {ps : List (Str × Int)} {pos : Pos} (D : IDict X.K X.w X.mg x ps) (hg : Gl X x) (hd : (x == ("__debug__" : Str)) = false) : PE X (.Name x pos) (tC (.ref D.d)) := pe_glob hg D.g rfl hd
end BK

namespace BK
open PySem PySem.Spec PyProof.Rows L2

/-! ### a word again and again -/
def rep (w : List Nat) (n : Nat) : List Nat := (List.replicate n w).flatten
theorem rep_zero (w : List Nat) : rep w 0 = [] := rfl
theorem rep_succ (w : List Nat) (n : Nat) : rep w (n + 1) = w ++ rep w n := by unfold rep; rw [List.replicate_succ, List.flatten_cons]
theorem rep_len (w : List Nat) : ∀ n, (rep w n).length = n * w.length
  | 0 => by rw [rep_zero]; simp
  | n + 1 => by rw [rep_succ, List.length_append, rep_len w n, Nat.add_mul, Nat.one_mul, Nat.add_comm]
theorem rep_add (w : List Nat) (m : Nat) : ∀ n, rep w (n + m) = rep w n ++ rep w m
  | 0 => by rw [Nat.zero_add, rep_zero, List.nil_append]
  | n + 1 => by rw [show n + 1 + m = (n + m) + 1 by omega, rep_succ, rep_add w m n, rep_succ, List.append_assoc]
theorem rep_get (w : List Nat) : ∀ (n i : Nat), i < n * w.length → (rep w n)[i]? = w[i % w.length]?
  | 0, i, h => by simp at h
  | n + 1, i, h => by
    rw [rep_succ]
    by_cases hi : i < w.length
    · rw [List.getElem?_append_left hi, Nat.mod_eq_of_lt hi]
    · have hn : w.length ≤ i := by omega
      have h2 : i - w.length < n * w.length := by rw [Nat.add_mul, Nat.one_mul] at h; omega
      rw [List.getElem?_append_right hn, rep_get w n _ h2, Nat.mod_eq_sub_mod hn]
theorem rep_count (w : List Nat) (c : Nat) : ∀ n, (rep w n).count c = n * w.count c
  | 0 => by rw [rep_zero]; simp
  | n + 1 => by rw [rep_succ, List.count_append, rep_count w c n, Nat.add_mul, Nat.one_mul, Nat.add_comm]
theorem rep_take {w : List Nat} (hw : w ≠ []) {n m : Nat} (h : m ≤ n * w.length) : (rep w n).take m = rep w (m / w.length) ++ w.take (m % w.length) := by
  have hp : 0 < w.length := List.length_pos_iff.mpr hw
  have hq : m / w.length ≤ n := by
    have := Nat.div_le_div_right (c := w.length) h
    rwa [Nat.mul_div_cancel _ hp] at this
  have e : n = m / w.length + (n - m / w.length) := by omega
  rw [e, rep_add]
  have hm : m = m / w.length * w.length + m % w.length := by rw [Nat.mul_comm]; exact (Nat.div_add_mod m w.length).symm
  rw [List.take_append, rep_len]
  have h1 : List.take m (rep w (m / w.length)) = rep w (m / w.length) := List.take_of_length_le (by rw [rep_len]; exact Nat.div_mul_le_self _ _)
  rw [h1]
  have h2 : m - m / w.length * w.length = m % w.length := by
    omega
  rw [h2]
  congr 1
  have hlt := Nat.mod_lt m hp
  cases hk : n - m / w.length with
  | zero =>
    have h3 : m ≤ m / w.length * w.length := by
      have e3 : n = m / w.length := by omega
      have h4 := h
      rw [e3] at h4
      exact h4
    have h5 : m % w.length = 0 := by omega
    rw [h5, rep_zero, List.take_zero, List.take_zero]
  | succ k => rw [rep_succ, List.take_append_of_le_length (by omega)]
theorem rep_take_count {w : List Nat} (hw : w ≠ []) {n m : Nat} (c : Nat) (h : m ≤ n * w.length) : ((rep w n).take m).count c = w.count c * (m / w.length) + (w.take (m % w.length)).count c := by
  rw [rep_take hw h, List.count_append, rep_count, Nat.mul_comm]

/-! ### texts by pieces -/
abbrev Pcs := List (List Nat × Nat)
def spell (ps : Pcs) : List Nat := (ps.map fun p => rep p.1 p.2).flatten
theorem spell_nil : spell [] = [] := rfl
theorem spell_cons (p : List Nat × Nat) (ps : Pcs) : spell (p :: ps) = rep p.1 p.2 ++ spell ps := by unfold spell; rw [List.map_cons, List.flatten_cons]
theorem spell_app (ps qs : Pcs) : spell (ps ++ qs) = spell ps ++ spell qs := by unfold spell; rw [List.map_append, List.flatten_append]
def size (ps : Pcs) : Nat := (ps.map fun p => p.1.length * p.2).sum
theorem spell_len (ps : Pcs) : (spell ps).length = size ps := by
  induction ps with
  | nil => rfl
  | cons p ps ih => rw [spell_cons, List.length_append, ih, rep_len]; unfold size; rw [List.map_cons, List.sum_cons, Nat.mul_comm]
theorem size_cons (p : List Nat × Nat) (ps : Pcs) : size (p :: ps) = p.1.length * p.2 + size ps := rfl
theorem size_take_succ (ps : Pcs) : ∀ {i : Nat} {p}, ps[i]? = some p → size (ps.take (i + 1)) = size (ps.take i) + p.1.length * p.2 := by
  induction ps with
  | nil => intro i p h; simp at h
  | cons q ps ih =>
    intro i p h
    cases i with
    | zero =>
      have e : q = p := by simpa using h
      subst e
      simp [size]
    | succ i =>
      have := ih (i := i) (p := p) (by simpa using h)
      rw [List.take_succ_cons, size_cons, this, List.take_succ_cons, size_cons, Nat.add_assoc]
theorem size_take_le (ps : Pcs) (i : Nat) : size (ps.take i) ≤ size ps := by
  induction ps generalizing i with
  | nil => simp
  | cons q ps ih =>
    cases i with
    | zero => simp [size]
    | succ i => rw [List.take_succ_cons, size_cons, size_cons]; have := ih i; omega

/-- small letters -/
def alpha : List Nat := [97, 98, 99, 100, 101, 102, 103, 104, 105, 106, 107, 108, 109, 110, 111, 112, 113, 114, 115, 116, 117, 118, 119, 120, 121, 122]
theorem tx_alpha : tx alpha = ("abcdefghijklmnopqrstuvwxyz" : Str) := by decide +kernel
def Plain (w : List Nat) : Prop := w.all (alpha.contains ·) = true
def Word (w : List Nat) : Prop := Plain w ∧ w ≠ [] ∧ w.length ≤ 60
structure Good (ps : Pcs) : Prop where
  few : ps.length ≤ 40
  ok : ∀ p ∈ ps, Word p.1 ∧ 1 ≤ p.2
  all : size ps ≤ 10 ^ 30

/-! ### things -/
inductive Dt where
  | non | bl (b : Bool) | int (i : Int) | str (w : List Nat) | lst (xs : List Dt) | tup (xs : List Dt) | dic
mutual
def At (K : PySem.W.Frag) (H : Hp) : V → Dt → Prop
  | v, .non => v = .non
  | v, .bl b => v = .bl b
  | v, .int i => v = .int i
  | v, .str w => v = .str (tx w) ∧ w.length ≤ 1000000
  | v, .lst ds => ∃ a xs, v = .ref a ∧ SqL K H a xs ∧ Ats K H xs ds
  | v, .tup ds => ∃ a xs, v = .ref a ∧ SqT K H a xs ∧ Ats K H xs ds
  | v, .dic => ∃ a, v = .ref a ∧ H a = some (.dK [])
def Ats (K : PySem.W.Frag) (H : Hp) : List V → List Dt → Prop
  | vs, [] => vs = []
  | vs, d :: ds => ∃ v us, vs = v :: us ∧ At K H v d ∧ Ats K H us ds
end
section
variable {K : PySem.W.Frag} {H H' : Hp}
mutual
theorem At.same (e : Same H H') : ∀ (d : Dt) (v : V), At K H v d → At K H' v d
  | .non, v, h => by unfold At at h ⊢; exact h
  | .bl _, v, h => by unfold At at h ⊢; exact h
  | .int _, v, h => by unfold At at h ⊢; exact h
  | .str _, v, h => by unfold At at h ⊢; exact h
  | .lst ds, v, h => by
    unfold At at h ⊢
    obtain ⟨a, xs, rfl, h1, h2⟩ := h
    exact ⟨a, xs, rfl, e.seq h1, Ats.same e ds xs h2⟩
  | .tup ds, v, h => by
    unfold At at h ⊢
    obtain ⟨a, xs, rfl, h1, h2⟩ := h
    exact ⟨a, xs, rfl, sameT e h1, Ats.same e ds xs h2⟩
  | .dic, v, h => by
    unfold At at h ⊢
    obtain ⟨a, rfl, h1⟩ := h
    exact ⟨a, rfl, e _ _ h1⟩
theorem Ats.same (e : Same H H') : ∀ (ds : List Dt) (vs : List V), Ats K H vs ds → Ats K H' vs ds
  | [], vs, h => by unfold Ats at h ⊢; exact h
  | d :: ds, vs, h => by
    unfold Ats at h ⊢
    obtain ⟨v, us, rfl, h1, h2⟩ := h
    exact ⟨v, us, rfl, At.same e d v h1, Ats.same e ds us h2⟩
end
theorem Ats.len : ∀ {ds : List Dt} {vs : List V}, Ats K H vs ds → vs.length = ds.length
  | [], vs, h => by unfold Ats at h; subst h; rfl
  | d :: ds, vs, h => by
    unfold Ats at h
    obtain ⟨v, us, rfl, _, h2⟩ := h
    rw [List.length_cons, List.length_cons, h2.len]
theorem Ats.get : ∀ {ds : List Dt} {vs : List V} {i : Nat} {d : Dt}, Ats K H vs ds → ds[i]? = some d → ∃ v, vs[i]? = some v ∧ At K H v d
  | [], vs, i, d, h, e => by simp at e
  | c :: ds, vs, i, d, h, e => by
    unfold Ats at h
    obtain ⟨v, us, rfl, h1, h2⟩ := h
    cases i with
    | zero =>
      have : c = d := by simpa using e
      subst this
      exact ⟨v, rfl, h1⟩
    | succ i => exact h2.get (by simpa using e)
end
/-- the type's name -/
def Dt.ty : Dt → String
  | .non => "NoneType"
  | .bl _ => "bool"
  | .int _ => "int"
  | .str _ => "str"
  | .lst _ => "list"
  | .tup _ => "tuple"
  | .dic => "dict"
theorem ty_known (d : Dt) : d.ty ∈ knownTy := by cases d <;> simp [Dt.ty, knownTy]
theorem At.ty {K : PySem.W.Frag} {H : Hp} {v : V} {d : Dt} (h : At K H v d) : TyB K H v d.ty := by
  cases d with
  | non => unfold At at h; subst h; exact .non
  | bl b => unfold At at h; subst h; exact .bl b
  | int i => unfold At at h; subst h; exact .int i
  | str w => unfold At at h; obtain ⟨rfl, _⟩ := h; exact .str _
  | lst ds => unfold At at h; obtain ⟨a, xs, rfl, h1, _⟩ := h; exact .lst h1
  | tup ds => unfold At at h; obtain ⟨a, xs, rfl, h1, _⟩ := h; exact .tup h1
  | dic => unfold At at h; obtain ⟨a, rfl, h1⟩ := h; exact .dK h1
/-- what is_row, is_whole, .. tell -/
def isRow : Dt → Bool
  | .lst _ => true
  | .tup _ => true
  | _ => false
def Dt.items : Dt → List Dt
  | .lst ds => ds
  | .tup ds => ds
  | _ => []
def isWhole (d : Dt) (lo : Int) : Bool := match d with
  | .int i => decide (lo ≤ i)
  | _ => false
def isWithin (d : Dt) (lo hi : Int) : Bool := match d with
  | .int i => decide (lo ≤ i) && decide (i ≤ hi)
  | _ => false
def isPlain : Dt → Bool
  | .str w => w.all (alpha.contains ·)
  | _ => false
def isLetter : Dt → Bool
  | .str w => w.all (alpha.contains ·) && decide (w.length = 1)
  | _ => false
def isClip : Dt → Bool
  | .str w => w.all (alpha.contains ·) && decide (w.length ≤ 60)
  | _ => false
def isWord : Dt → Bool
  | .str w => w.all (alpha.contains ·) && decide (w.length ≤ 60) && decide (w ≠ [])
  | _ => false
def isPiece (d : Dt) : Bool := isRow d && (match d.items with
  | [a, b] => isWord a && isWhole b 1
  | _ => false)
def pieceSize (d : Dt) : Int := match d.items with
  | [.str w, .int n] => (w.length : Int) * n
  | _ => 0
def isText (d : Dt) : Bool := isRow d && decide (d.items.length ≤ 40) && d.items.all isPiece && decide ((d.items.map pieceSize).sum ≤ 10 ^ 30)
/-- a text's pieces -/
def pcOf (d : Dt) : List Nat × Nat := match d.items with
  | [.str w, .int n] => (w, n.toNat)
  | _ => ([], 0)
def pcs (d : Dt) : Pcs := d.items.map pcOf
theorem isPiece_of {d : Dt} (h : isPiece d = true) : ∃ w n, d.items = [.str w, .int n] ∧ isRow d = true ∧ Word w ∧ 1 ≤ n := by
  unfold isPiece at h
  rw [Bool.and_eq_true] at h
  obtain ⟨h1, h2⟩ := h
  split at h2
  · rename_i a b e
    rw [Bool.and_eq_true] at h2
    obtain ⟨h3, h4⟩ := h2
    cases a with
    | str w =>
      cases b with
      | int n =>
        unfold isWord at h3
        unfold isWhole at h4
        simp only [Bool.and_eq_true, decide_eq_true_eq] at h3 h4
        exact ⟨w, n, e, h1, ⟨h3.1.1, h3.2, h3.1.2⟩, h4⟩
      | _ => simp [isWhole] at h4
    | _ => simp [isWord] at h3
  · cases h2
theorem sum_size : ∀ {ds : List Dt}, ds.all isPiece = true → (ds.map pieceSize).sum = (size (ds.map pcOf) : Int)
  | [], _ => rfl
  | d :: ds, h => by
    rw [List.all_cons, Bool.and_eq_true] at h
    obtain ⟨w, n, e, _, _, hn⟩ := isPiece_of h.1
    rw [List.map_cons, List.sum_cons, sum_size h.2, List.map_cons, size_cons]
    have e1 : pieceSize d = (w.length : Int) * n := by unfold pieceSize; rw [e]
    have e2 : pcOf d = (w, n.toNat) := by unfold pcOf; rw [e]
    rw [e1, e2, Int.natCast_add, Int.natCast_mul, Int.toNat_of_nonneg (by omega)]
theorem Good.of {d : Dt} (h : isText d = true) : Good (pcs d) := by
  unfold isText at h
  simp only [Bool.and_eq_true, decide_eq_true_eq] at h
  obtain ⟨⟨⟨h1, h2⟩, h3⟩, h4⟩ := h
  refine ⟨by unfold pcs; rw [List.length_map]; exact h2, fun p hp => ?_, ?_⟩
  · unfold pcs at hp
    obtain ⟨e, he, rfl⟩ := List.mem_map.mp hp
    obtain ⟨w, n, e1, _, hw, hn⟩ := isPiece_of (List.all_eq_true.mp h3 e he)
    have e2 : pcOf e = (w, n.toNat) := by unfold pcOf; rw [e1]
    rw [e2]
    exact ⟨hw, by show 1 ≤ n.toNat; omega⟩
  · rw [sum_size h3] at h4
    unfold pcs
    have : ((10 ^ 30 : Nat) : Int) = (10 ^ 30 : Int) := by decide
    omega

/-! ### a text in the heap, by its pieces -/
def PieceAt (K : PySem.W.Frag) (H : Hp) (v : V) (p : List Nat × Nat) : Prop := ∃ a, v = .ref a ∧ Row K H a [.str (tx p.1), .int p.2]
def TextAt (K : PySem.W.Frag) (H : Hp) (v : V) (ps : Pcs) : Prop := ∃ a xs, v = .ref a ∧ Row K H a xs ∧ Paired (PieceAt K H) xs ps
theorem prd_same {α β : Type} {R S : α → β → Prop} (f : ∀ a b, R a b → S a b) : ∀ {xs : List α} {ys : List β}, Paired R xs ys → Paired S xs ys
  | _, _, .nil => .nil
  | _, _, .cons h t => .cons (f _ _ h) (prd_same f t)
theorem PieceAt.same {K : PySem.W.Frag} {H H' : Hp} {v : V} {p} (e : Same H H') (h : PieceAt K H v p) : PieceAt K H' v p := by
  obtain ⟨a, rfl, h⟩ := h
  exact ⟨a, rfl, h.same e⟩
theorem TextAt.same {K : PySem.W.Frag} {H H' : Hp} {v : V} {ps} (e : Same H H') (h : TextAt K H v ps) : TextAt K H' v ps := by
  obtain ⟨a, xs, rfl, h1, h2⟩ := h
  exact ⟨a, xs, rfl, h1.same e, prd_same (fun _ _ => PieceAt.same e) h2⟩
theorem at_row {K : PySem.W.Frag} {H : Hp} {v : V} {d : Dt} (h : At K H v d) (hr : isRow d = true) : ∃ a xs, v = .ref a ∧ Row K H a xs ∧ Ats K H xs d.items := by
  cases d with
  | lst ds => unfold At at h; obtain ⟨a, xs, rfl, h1, h2⟩ := h; exact ⟨a, xs, rfl, .inl h1, h2⟩
  | tup ds => unfold At at h; obtain ⟨a, xs, rfl, h1, h2⟩ := h; exact ⟨a, xs, rfl, .inr h1, h2⟩
  | _ => simp [isRow] at hr
theorem pieceAt_of {K : PySem.W.Frag} {H : Hp} {v : V} {d : Dt} (h : At K H v d) (hp : isPiece d = true) : PieceAt K H v (pcOf d) := by
  obtain ⟨w, n, e, hr, hw, hn⟩ := isPiece_of hp
  obtain ⟨a, xs, rfl, h1, h2⟩ := at_row h hr
  rw [e] at h2
  unfold Ats at h2
  obtain ⟨v1, us, rfl, g1, h2⟩ := h2
  unfold Ats at h2
  obtain ⟨v2, us, rfl, g2, h2⟩ := h2
  unfold Ats at h2
  subst h2
  unfold At at g1 g2
  obtain ⟨rfl, _⟩ := g1
  subst g2
  have e2 : pcOf d = (w, n.toNat) := by unfold pcOf; rw [e]
  rw [e2]
  refine ⟨a, rfl, ?_⟩
  show Row K H a [.str (tx w), .int (n.toNat : Int)]
  rw [Int.toNat_of_nonneg (by omega)]
  exact h1
theorem textAt_of {K : PySem.W.Frag} {H : Hp} {v : V} {d : Dt} (h : At K H v d) (ht : isText d = true) : TextAt K H v (pcs d) := by
  unfold isText at ht
  simp only [Bool.and_eq_true, decide_eq_true_eq] at ht
  obtain ⟨⟨⟨h1, h2⟩, h3⟩, h4⟩ := ht
  obtain ⟨a, xs, rfl, g1, g2⟩ := at_row h h1
  refine ⟨a, xs, rfl, g1, ?_⟩
  unfold pcs
  generalize hd : d.items = ds at g2 h3
  clear hd h4 h1 h2 g1 h
  induction ds generalizing xs with
  | nil => unfold Ats at g2; subst g2; exact .nil
  | cons c ds ih =>
    unfold Ats at g2
    obtain ⟨v, us, rfl, k1, k2⟩ := g2
    rw [List.all_cons, Bool.and_eq_true] at h3
    exact .cons (pieceAt_of k1 h3.1) (ih us k2 h3.2)
theorem prd_at {α β : Type} {R : α → β → Prop} {xs : List α} {ys : List β} (h : Paired R xs ys) : ∀ {i : Nat} {x : α}, xs[i]? = some x → ∃ y, ys[i]? = some y ∧ R x y := by
  induction h with
  | nil => intro i x e; simp at e
  | cons h t ih =>
    intro i x e
    cases i with
    | zero =>
      have := Option.some.inj e
      subst this
      exact ⟨_, rfl, h⟩
    | succ i => exact ih (by simpa using e)
theorem prd_len {α β : Type} {R : α → β → Prop} {xs : List α} {ys : List β} (h : Paired R xs ys) : xs.length = ys.length := Paired.length h

theorem at_ofA {α : Type} {xs : List α} {z : Int} {j : Nat} {v : α} (e : z = (j : Int)) (h : xs[j]? = some v) : atI xs z = some v := by
  rw [e]
  exact atI_nat h
/-! ### readings over rows -/
section
variable {K : PySem.W.Frag} {H : Hp} {a : Addr} {xs : List V}
theorem ix_row {i : Int} {x : V} {Q : VK} (h : Row K H a xs) (e : atI xs i = some x) (q : Q x H) : rIx K (.ref a) (.int i) H Q := by
  rcases h with h | h
  · exact .inl ⟨a, xs, i, x, rfl, rfl, h, e, q⟩
  · exact .inr (.inl ⟨a, xs, i, x, rfl, rfl, h, e, q⟩)
theorem ix_lst {i : Int} {x : V} {Q : VK} (h : H a = some (.lst xs)) (e : atI xs i = some x) (q : Q x H) : rIx K (.ref a) (.int i) H Q := ix_row (.inl (SqL.of h)) e q
theorem ix_tx {z : List Nat} {i : Int} {c : Nat} {Q : VK} (h : z.length ≤ 1000000) (e : atI z i = some c) (q : Q (.str (tx [c])) H) : rIx K (.str (tx z)) (.int i) H Q :=
  .inr (.inr ⟨tx z, i, c, rfl, rfl, by rw [tx_len]; exact Nat.le_trans h (by decide), by rw [tx_cps]; exact e, q⟩)
theorem len_row {Q : VK} (h : Row K H a xs) (q : Q (.int xs.length) H) : rLenA K [.ref a] H Q := .inl ⟨a, xs, rfl, h, q⟩
theorem len_tx {w : List Nat} {Q : VK} (h : w.length ≤ 1000000) (q : Q (.int w.length) H) : rLenA K [.str (tx w)] H Q :=
  .inr ⟨tx w, rfl, by rw [tx_len]; exact Nat.le_trans h (by decide), by rw [tx_len]; exact q⟩
end
theorem Ats.at {K : PySem.W.Frag} {H : Hp} : ∀ {ds : List Dt} {vs : List V} {i : Nat} {v : V}, Ats K H vs ds → vs[i]? = some v → ∃ d, ds[i]? = some d ∧ At K H v d
  | [], vs, i, v, h, e => by unfold Ats at h; subst h; simp at e
  | c :: ds, vs, i, v, h, e => by
    unfold Ats at h
    obtain ⟨x, us, rfl, h1, h2⟩ := h
    cases i with
    | zero =>
      have : x = v := by simpa using e
      subst this
      exact ⟨c, rfl, h1⟩
    | succ i => exact h2.at (by simpa using e)
theorem isum_take : ∀ {l : List Int} {i : Nat} {z : Int}, l[i]? = some z → (l.take (i + 1)).sum = (l.take i).sum + z := sum_take
theorem all_take_succ {α : Type} {p : α → Bool} {l : List α} {i : Nat} {x : α} (h : (l.take i).all p = true) (e : l[i]? = some x) (hx : p x = true) : (l.take (i + 1)).all p = true := by
  rw [List.take_add_one, e, List.all_append, h]
  simp [hx]
end BK

namespace BK
open PySem PySem.Spec PyProof.Rows L2

/-! ### stretches of a word again and again -/
def cyc (w : List Nat) (at_ many : Nat) : List Nat := ((rep w ((at_ % w.length + many) / w.length + 1)).drop (at_ % w.length)).take many
theorem cyc_get {w : List Nat} (hw : w ≠ []) (a m i : Nat) (h : i < m) : (cyc w a m)[i]? = w[(a + i) % w.length]? := by
  have hp : 0 < w.length := List.length_pos_iff.mpr hw
  unfold cyc
  rw [List.getElem?_take, if_pos h, List.getElem?_drop, rep_get]
  · rw [Nat.mod_add_mod]
  · have h1 := Nat.lt_div_mul_add (a := a % w.length + m) hp
    rw [Nat.add_mul, Nat.one_mul]
    omega
theorem drop_rep {w : List Nat} (hw : w ≠ []) {n a m : Nat} (h : a + m ≤ n * w.length) : ((rep w n).drop a).take m = cyc w a m := by
  apply List.ext_getElem?
  intro i
  by_cases hi : i < m
  · rw [cyc_get hw a m i hi, List.getElem?_take, if_pos hi, List.getElem?_drop, rep_get _ _ _ (by omega)]
  · have hp : 0 < w.length := List.length_pos_iff.mpr hw
    rw [List.getElem?_take, if_neg hi]
    unfold cyc
    rw [List.getElem?_take, if_neg hi]
theorem cyc_len {w : List Nat} (hw : w ≠ []) (a m : Nat) : (cyc w a m).length = m := by
  have hp : 0 < w.length := List.length_pos_iff.mpr hw
  unfold cyc
  rw [List.length_take, List.length_drop, rep_len]
  have h1 := Nat.lt_div_mul_add (a := a % w.length + m) hp
  rw [Nat.add_mul, Nat.one_mul]
  omega

theorem rep_mem {x : List Nat} {c : Nat} : ∀ {n : Nat}, c ∈ rep x n → c ∈ x
  | 0, h => by cases h
  | n + 1, h => by
    rw [rep_succ] at h
    rcases List.mem_append.mp h with h | h
    · exact h
    · exact rep_mem h
/-! ### spans -/
abbrev Span := Nat × Nat × List Nat
def spansOf : Nat → Pcs → List Span
  | _, [] => []
  | s, p :: ps => (s, s + p.1.length * p.2, p.1) :: spansOf (s + p.1.length * p.2) ps
theorem spansOf_len : ∀ (ps : Pcs) (s : Nat), (spansOf s ps).length = ps.length
  | [], _ => rfl
  | p :: ps, s => by unfold spansOf; rw [List.length_cons, spansOf_len ps, List.length_cons]
theorem spansOf_get : ∀ (ps : Pcs) (s i : Nat) (p), ps[i]? = some p → (spansOf s ps)[i]? = some (s + size (ps.take i), s + size (ps.take i) + p.1.length * p.2, p.1)
  | [], s, i, p, h => by simp at h
  | q :: ps, s, 0, p, h => by
    have : q = p := by simpa using h
    subst this
    simp [spansOf, size]
  | q :: ps, s, i + 1, p, h => by
    unfold spansOf
    rw [List.getElem?_cons_succ, spansOf_get ps _ i p (by simpa using h), List.take_succ_cons, size_cons]
    simp only [Nat.add_assoc]
theorem spansOf_at (ps : Pcs) {i : Nat} {x : Span} (h : (spansOf 0 ps)[i]? = some x) : ∃ p, ps[i]? = some p ∧ x = (size (ps.take i), size (ps.take i) + p.1.length * p.2, p.1) := by
  have hl := (List.getElem?_eq_some_iff.mp h).1
  rw [spansOf_len] at hl
  refine ⟨ps[i], List.getElem?_eq_getElem hl, ?_⟩
  have := spansOf_get ps 0 i ps[i] (List.getElem?_eq_getElem hl)
  rw [this] at h
  have := Option.some.inj h
  rw [← this]
  simp only [Nat.zero_add]
def SpanAt (H : Hp) (v : V) (x : Span) : Prop := ∃ a, v = .ref a ∧ H a = some (.tup [.int x.1, .int x.2.1, .str (tx x.2.2)])
def SpansAt (H : Hp) (a : Addr) (xs : List Span) : Prop := ∃ us, H a = some (.lst us) ∧ Paired (SpanAt H) us xs
theorem SpanAt.same {H H' : Hp} {v : V} {x : Span} (e : Same H H') (h : SpanAt H v x) : SpanAt H' v x := by
  obtain ⟨a, rfl, h⟩ := h
  exact ⟨a, rfl, e _ _ h⟩
theorem SpansAt.same {H H' : Hp} {a : Addr} {xs : List Span} (e : Same H H') (h : SpansAt H a xs) : SpansAt H' a xs := by
  obtain ⟨us, h1, h2⟩ := h
  exact ⟨us, e _ _ h1, prd_same (fun _ _ => SpanAt.same e) h2⟩
theorem SpanAt.upd {H : Hp} {v : V} {x : Span} {o : Addr} {us vs : List V} (ho : H o = some (.lst us)) (h : SpanAt H v x) : SpanAt (upd H o (.lst vs)) v x := by
  obtain ⟨a, rfl, h⟩ := h
  exact ⟨a, rfl, by rw [upd_ne (ne_of h ho (by intro z; cases z))]; exact h⟩
theorem prd_snoc {α β : Type} {R : α → β → Prop} {xs : List α} {ys : List β} {x : α} {y : β} (h : Paired R xs ys) (hxy : R x y) : Paired R (xs ++ [x]) (ys ++ [y]) := by
  induction h with
  | nil => exact .cons hxy .nil
  | cons a t ih => exact .cons a ih
theorem same_mut {H H' : Hp} {p : Addr} {o : HO} (e : Same H H') (h : H p = none) : Same H (upd H' p o) := fun a u ha => by
  rw [upd_ne (ne_of_none ha h)]
  exact e a u ha
/-- the spans' end -/
theorem spansOf_last {ps : Pcs} (h : ps ≠ []) : ∃ p s, ps.getLast? = some p ∧ (spansOf 0 ps).getLast? = some (s, size ps, p.1) := by
  have hp : 0 < ps.length := List.length_pos_iff.mpr h
  have e := List.getElem?_eq_getElem (l := ps) (i := ps.length - 1) (by omega)
  refine ⟨ps[ps.length - 1], size (ps.take (ps.length - 1)), by rw [List.getLast?_eq_getElem?, e], ?_⟩
  rw [List.getLast?_eq_getElem?, spansOf_len, spansOf_get ps 0 _ _ e, Nat.zero_add, ← size_take_succ ps e, show ps.length - 1 + 1 = ps.length by omega, List.take_length]

/-! ### looks, counts, so-manieths of what is spelled -/
theorem spell_take_succ {ps : Pcs} {i : Nat} {p} (h : ps[i]? = some p) : spell (ps.take (i + 1)) = spell (ps.take i) ++ rep p.1 p.2 := by
  rw [List.take_add_one, h, spell_app]
  show _ ++ spell [p] = _
  rw [spell_cons, spell_nil, List.append_nil]
theorem look_app (A B : List Nat) (p m : Nat) : ((A ++ B).drop p).take m = (A.drop p).take m ++ (B.drop (max A.length p - A.length)).take (min (A.length + B.length) (p + m) - max A.length p) := by
  rw [List.drop_append, List.take_append, List.length_drop]
  congr 1
  rw [show max A.length p - A.length = p - A.length by omega]
  by_cases h : m - (A.length - p) ≤ B.length - (p - A.length)
  · congr 1
    omega
  · rw [List.take_of_length_le (by rw [List.length_drop]; omega), List.take_of_length_le (by rw [List.length_drop]; omega)]
theorem count_app (A B : List Nat) (c m : Nat) : ((A ++ B).take m).count c = (A.take m).count c + (B.take (min (A.length + B.length) m - A.length)).count c := by
  rw [List.take_append, List.count_append]
  congr 2
  by_cases h : m - A.length ≤ B.length
  · congr 1
    omega
  · rw [List.take_of_length_le (by omega), List.take_of_length_le (by omega)]
/-- the places of a sign -/
def pos (w : List Nat) (c : Nat) : List Nat := (List.range w.length).filter fun i => w[i]? == some c
def IsNth (l : List Nat) (c k i : Nat) : Prop := l[i]? = some c ∧ (l.take i).count c = k
theorem posTo (w : List Nat) (c : Nat) : ∀ n, n ≤ w.length → ((List.range n).filter fun i => w[i]? == some c).length = (w.take n).count c ∧
    ∀ k i, ((List.range n).filter fun i => w[i]? == some c)[k]? = some i → IsNth w c k i
  | 0, _ => ⟨by simp, fun k i h => by simp at h⟩
  | n + 1, hn => by
    obtain ⟨ih1, ih2⟩ := posTo w c n (by omega)
    rw [List.range_succ, List.filter_append]
    have hg : w[n]? = some w[n] := List.getElem?_eq_getElem (by omega)
    by_cases hc : w[n] = c
    · have e : (List.filter (fun i => w[i]? == some c) [n]) = [n] := by
        rw [List.filter_cons, hg, hc]
        simp
      rw [e]
      have hcount : (w.take (n + 1)).count c = (w.take n).count c + 1 := by
        rw [List.take_add_one, hg, List.count_append, hc]
        simp
      refine ⟨by rw [List.length_append, ih1, hcount]; rfl, fun k i h => ?_⟩
      by_cases hk : k < ((List.range n).filter fun i => w[i]? == some c).length
      · rw [List.getElem?_append_left hk] at h
        exact ih2 k i h
      · rw [List.getElem?_append_right (by omega)] at h
        have hk0 : k - ((List.range n).filter fun i => w[i]? == some c).length = 0 := by
          have := (List.getElem?_eq_some_iff.mp h).1
          simp at this
          omega
        rw [hk0] at h
        have hi : n = i := by simpa using h
        subst hi
        refine ⟨by rw [hg, hc], ?_⟩
        rw [← ih1]
        omega
    · have e : (List.filter (fun i => w[i]? == some c) [n]) = [] := by
        rw [List.filter_cons, hg]
        simp [hc]
      rw [e, List.append_nil]
      have hcount : (w.take (n + 1)).count c = (w.take n).count c := by
        rw [List.take_add_one, hg, List.count_append]
        simp [hc]
      exact ⟨by rw [ih1, hcount], ih2⟩
theorem pos_len (w : List Nat) (c : Nat) : (pos w c).length = w.count c := by
  have := (posTo w c w.length (Nat.le_refl _)).1
  rw [List.take_length] at this
  exact this
theorem pos_get {w : List Nat} {c k i : Nat} (h : (pos w c)[k]? = some i) : IsNth w c k i := (posTo w c w.length (Nat.le_refl _)).2 k i h
theorem nth_rep {w : List Nat} {c q r i n : Nat} (h : IsNth w c r i) (hq : q < n) : IsNth (rep w n) c (q * w.count c + r) (q * w.length + i) := by
  have hi := (List.getElem?_eq_some_iff.mp h.1).1
  have e : n = q + ((n - q - 1) + 1) := by omega
  rw [e, rep_add, rep_succ]
  constructor
  · rw [List.getElem?_append_right (by rw [rep_len]; omega), rep_len, show q * w.length + i - q * w.length = i by omega, List.getElem?_append_left hi]
    exact h.1
  · rw [List.take_append, rep_len, List.count_append, List.take_of_length_le (by rw [rep_len]; omega), rep_count, show q * w.length + i - q * w.length = i by omega, List.take_append_of_le_length (by omega), h.2]
theorem nth_app_right {A B : List Nat} {c k i : Nat} (h : IsNth B c k i) : IsNth (A ++ B) c (A.count c + k) (A.length + i) := by
  constructor
  · rw [List.getElem?_append_right (by omega), show A.length + i - A.length = i by omega]
    exact h.1
  · rw [List.take_append, List.count_append, List.take_of_length_le (by omega), show A.length + i - A.length = i by omega, h.2]
theorem nth_app_left {A B : List Nat} {c k i : Nat} (h : IsNth A c k i) : IsNth (A ++ B) c k i := by
  have hi := (List.getElem?_eq_some_iff.mp h.1).1
  exact ⟨by rw [List.getElem?_append_left hi]; exact h.1, by rw [List.take_append_of_le_length (by omega)]; exact h.2⟩
theorem sum_le_len : ∀ (ss : List (List Nat)), (ss.map (·.length)).sum = ss.flatten.length
  | [] => rfl
  | a :: r => by rw [List.map_cons, List.sum_cons, sum_le_len r, List.flatten_cons, List.length_append]
end BK

namespace BK
open PySem PySem.Spec PyProof.Rows L2
/-! ## keys and sheets -/
inductive Ky where
  | write (w : List Nat) | paste | left (n : Nat) | right (n : Nat) | strike (n : Nat) | rub (n : Nat) | copy (n : Nat) | cut (n : Nat)
def Ky.vs : Ky → List V
  | .write w => [.str "write", .str (tx w)]
  | .paste => [.str "paste"]
  | .left n => [.str "left", .int n]
  | .right n => [.str "right", .int n]
  | .strike n => [.str "strike", .int n]
  | .rub n => [.str "rub", .int n]
  | .copy n => [.str "copy", .int n]
  | .cut n => [.str "cut", .int n]
def Ky.wt : Ky → Nat
  | .write w => w.length
  | .paste => 1
  | .left n | .right n | .strike n | .rub n | .copy n | .cut n => n
def Ky.ok : Ky → Prop
  | .write w => w ≠ [] ∧ w.length ≤ 60 ∧ Plain w
  | .paste => True
  | .left n | .right n | .strike n | .rub n | .copy n | .cut n => 1 ≤ n
def hwt (ks : List Ky) : Nat := (ks.map Ky.wt).sum
structure GoodH (ks : List Ky) : Prop where
  ok : ∀ k ∈ ks, k.ok
  wt : hwt ks ≤ 60
theorem Ky.ok.pos : ∀ {k : Ky}, k.ok → 1 ≤ k.wt
  | .write w, h => List.length_pos_iff.mpr h.1
  | .paste, _ => Nat.le_refl _
  | .left n, h | .right n, h | .strike n, h | .rub n, h | .copy n, h | .cut n, h => h
theorem hwt_cons (k : Ky) (ks : List Ky) : hwt (k :: ks) = k.wt + hwt ks := by unfold hwt; rw [List.map_cons, List.sum_cons]
theorem hwt_app (as bs : List Ky) : hwt (as ++ bs) = hwt as + hwt bs := by unfold hwt; rw [List.map_append, List.sum_append]
theorem hwt_mem {k : Ky} {ks : List Ky} (h : k ∈ ks) : k.wt ≤ hwt ks := by
  induction ks with
  | nil => cases h
  | cons a as ih =>
    rw [hwt_cons]
    rcases List.mem_cons.mp h with rfl | h
    · omega
    · have := ih h; omega
theorem len_hwt : ∀ {ks : List Ky}, (∀ k ∈ ks, k.ok) → ks.length ≤ hwt ks
  | [], _ => Nat.zero_le _
  | k :: ks, h => by
    have h1 := (h k (List.mem_cons_self ..)).pos
    have h2 := len_hwt (ks := ks) fun x hx => h x (List.mem_cons_of_mem _ hx)
    rw [hwt_cons, List.length_cons]
    omega
theorem GoodH.few {ks : List Ky} (h : GoodH ks) : ks.length ≤ 60 := Nat.le_trans (len_hwt h.ok) h.wt

/-! ### what keys do: the nearest letter of a side stands last -/
section
variable {α β : Type}
def near (s : List α) (n : Nat) : List α := (s.drop (s.length - n)).reverse
def rest (s : List α) (n : Nat) : List α := s.take (s.length - n)
theorem near_len (s : List α) (n : Nat) : (near s n).length = min n s.length := by unfold near; rw [List.length_reverse, List.length_drop]; omega
theorem rest_len (s : List α) (n : Nat) : (rest s n).length = s.length - n := by unfold rest; rw [List.length_take]; omega
theorem near_map (f : α → β) (s : List α) (n : Nat) : near (s.map f) n = (near s n).map f := by unfold near; rw [List.length_map, List.map_reverse, List.map_drop]
theorem rest_map (f : α → β) (s : List α) (n : Nat) : rest (s.map f) n = (rest s n).map f := by unfold rest; rw [List.length_map, List.map_take]
structure Sd (α : Type) where
  l : List α
  r : List α
  c : List α
def Sd.map (f : α → β) (s : Sd α) : Sd β := ⟨s.l.map f, s.r.map f, s.c.map f⟩
def step (f : Nat → α) : Ky → Sd α → Sd α
  | .write w, s => ⟨s.l ++ w.map f, s.r, s.c⟩
  | .paste, s => ⟨s.l ++ s.c, s.r, s.c⟩
  | .left n, s => ⟨rest s.l n, s.r ++ near s.l n, s.c⟩
  | .right n, s => ⟨s.l ++ near s.r n, rest s.r n, s.c⟩
  | .strike n, s => ⟨s.l, rest s.r n, s.c⟩
  | .rub n, s => ⟨rest s.l n, s.r, s.c⟩
  | .copy n, s => ⟨s.l, s.r, near s.r n⟩
  | .cut n, s => ⟨s.l, rest s.r n, near s.r n⟩
theorem step_map (f : Nat → α) (g : α → β) : ∀ (k : Ky) (s : Sd α), step (fun n => g (f n)) k (s.map g) = (step f k s).map g
  | .write w, s => by
    show Sd.mk (s.l.map g ++ w.map fun n => g (f n)) _ _ = Sd.mk ((s.l ++ w.map f).map g) _ _
    rw [List.map_append, List.map_map]
    rfl
  | .paste, s => by
    show Sd.mk (s.l.map g ++ s.c.map g) _ _ = Sd.mk ((s.l ++ s.c).map g) _ _
    rw [List.map_append]
    rfl
  | .left n, s => by
    show Sd.mk (rest (s.l.map g) n) (s.r.map g ++ near (s.l.map g) n) _ = Sd.mk ((rest s.l n).map g) ((s.r ++ near s.l n).map g) _
    rw [List.map_append, near_map, rest_map]
    rfl
  | .right n, s => by
    show Sd.mk (s.l.map g ++ near (s.r.map g) n) (rest (s.r.map g) n) _ = Sd.mk ((s.l ++ near s.r n).map g) ((rest s.r n).map g) _
    rw [List.map_append, near_map, rest_map]
    rfl
  | .strike n, s => by
    show Sd.mk _ (rest (s.r.map g) n) _ = Sd.mk _ ((rest s.r n).map g) _
    rw [rest_map]
    rfl
  | .rub n, s => by
    show Sd.mk (rest (s.l.map g) n) _ _ = Sd.mk ((rest s.l n).map g) _ _
    rw [rest_map]
    rfl
  | .copy n, s => by
    show Sd.mk _ _ (near (s.r.map g) n) = Sd.mk _ _ ((near s.r n).map g)
    rw [near_map]
    rfl
  | .cut n, s => by
    show Sd.mk _ (rest (s.r.map g) n) (near (s.r.map g) n) = Sd.mk _ ((rest s.r n).map g) ((near s.r n).map g)
    rw [near_map, rest_map]
    rfl
def Sd.size (s : Sd α) : Nat := s.l.length + s.r.length
theorem step_size (f : Nat → α) : ∀ (k : Ky) (s : Sd α), k.wt ≤ 60 → s.c.length ≤ 60 → (step f k s).size ≤ s.size + 60 ∧ (step f k s).c.length ≤ 60
  | .write w, s, h, hc => by
    have h : w.length ≤ 60 := h
    unfold Sd.size step
    simp only [List.length_append, List.length_map]
    omega
  | .paste, s, h, hc => by
    unfold Sd.size step
    simp only [List.length_append]
    omega
  | .left n, s, h, hc | .right n, s, h, hc | .strike n, s, h, hc | .rub n, s, h, hc | .copy n, s, h, hc | .cut n, s, h, hc => by
    have h : n ≤ 60 := h
    unfold Sd.size step
    simp only [List.length_append, near_len, rest_len]
    omega
def steps (f : Nat → α) (ks : List Ky) (s : Sd α) : Sd α := ks.foldl (fun s k => step f k s) s
theorem steps_app (f : Nat → α) (as bs : List Ky) (s : Sd α) : steps f (as ++ bs) s = steps f bs (steps f as s) := by unfold steps; rw [List.foldl_append]
theorem steps_cons (f : Nat → α) (k : Ky) (ks : List Ky) (s : Sd α) : steps f (k :: ks) s = steps f ks (step f k s) := rfl
theorem steps_map (f : Nat → α) (g : α → β) : ∀ (ks : List Ky) (s : Sd α), steps (fun n => g (f n)) ks (s.map g) = (steps f ks s).map g
  | [], _ => rfl
  | k :: ks, s => by rw [steps_cons, steps_cons, step_map, steps_map f g ks]
theorem steps_size (f : Nat → α) : ∀ (ks : List Ky) (s : Sd α), (∀ k ∈ ks, k.wt ≤ 60) → s.c.length ≤ 60 → (steps f ks s).size ≤ s.size + 60 * ks.length ∧ (steps f ks s).c.length ≤ 60
  | [], s, _, hc => ⟨Nat.le_refl _, hc⟩
  | k :: ks, s, h, hc => by
    obtain ⟨h1, h2⟩ := step_size f k s (h k (List.mem_cons_self ..)) hc
    obtain ⟨h3, h4⟩ := steps_size f ks (step f k s) (fun x hx => h x (List.mem_cons_of_mem _ hx)) h2
    rw [steps_cons, List.length_cons]
    exact ⟨by omega, h4⟩
/-- so many pressings -/
def presses (f : Nat → α) (ks : List Ky) : Nat → Sd α → Sd α
  | 0, s => s
  | n + 1, s => presses f ks n (steps f ks s)
theorem presses_add (f : Nat → α) (ks : List Ky) : ∀ (m n : Nat) (s : Sd α), presses f ks (m + n) s = presses f ks n (presses f ks m s)
  | 0, n, s => by rw [Nat.zero_add]; rfl
  | m + 1, n, s => by
    rw [show m + 1 + n = (m + n) + 1 by omega]
    exact presses_add f ks m n (steps f ks s)
theorem presses_succ (f : Nat → α) (ks : List Ky) (n : Nat) (s : Sd α) : presses f ks (n + 1) s = steps f ks (presses f ks n s) := presses_add f ks n 1 s
theorem presses_map (f : Nat → α) (g : α → β) (ks : List Ky) : ∀ (n : Nat) (s : Sd α), presses (fun n => g (f n)) ks n (s.map g) = (presses f ks n s).map g
  | 0, _ => rfl
  | n + 1, s => by
    show presses _ ks n (steps _ ks (s.map g)) = _
    rw [steps_map, presses_map f g ks n]
    rfl
theorem presses_size (f : Nat → α) (ks : List Ky) (h : ∀ k ∈ ks, k.wt ≤ 60) (hl : ks.length ≤ 60) : ∀ (n : Nat) (s : Sd α), s.c.length ≤ 60 → (presses f ks n s).size ≤ s.size + 3600 * n ∧ (presses f ks n s).c.length ≤ 60
  | 0, s, hc => ⟨Nat.le_refl _, hc⟩
  | n + 1, s, hc => by
    obtain ⟨h1, h2⟩ := steps_size f ks s h hc
    obtain ⟨h3, h4⟩ := presses_size f ks h hl n (steps f ks s) h2
    exact ⟨by show (presses f ks n (steps f ks s)).size ≤ _; omega, h4⟩
end

/-! ### in the heap -/
def KeyAt (K : PySem.W.Frag) (H : Hp) (v : V) (k : Ky) : Prop := ∃ a, v = .ref a ∧ Row K H a k.vs
def HandAt (K : PySem.W.Frag) (H : Hp) (v : V) (ks : List Ky) : Prop := ∃ a xs, v = .ref a ∧ Row K H a xs ∧ Paired (KeyAt K H) xs ks
theorem KeyAt.same {K : PySem.W.Frag} {H H' : Hp} {v : V} {k} (e : Same H H') (h : KeyAt K H v k) : KeyAt K H' v k := by
  obtain ⟨a, rfl, h⟩ := h
  exact ⟨a, rfl, h.same e⟩
theorem HandAt.same {K : PySem.W.Frag} {H H' : Hp} {v : V} {ks} (e : Same H H') (h : HandAt K H v ks) : HandAt K H' v ks := by
  obtain ⟨a, xs, rfl, h1, h2⟩ := h
  exact ⟨a, xs, rfl, h1.same e, prd_same (fun _ _ => KeyAt.same e) h2⟩
/-- [f(x) for x in (a row that stands in slot j)] -/
theorem lc_rowN {K : PySem.W.Frag} {a : Addr} {xs ys : List V} {tt : TT} {te : TE} {vs : List Nat} {σ : L2.St} {H : Hp} {Q : VK} {j k : Nat} (hv : σ[j]? = some (some (.ref a))) (hr : Row K H a xs) (hl : xs.length = ys.length) (hz : ys.length < sizeLine)
    (hw : ∀ x, wipe ((wipe σ vs).set k (some x)) vs = wipe σ vs) (ht : ∀ σ H (R : Bool → Hp → Prop), R true H → tt σ H R)
    (hs : ∀ (i : Nat) (x y : V) (H' : Hp), xs[i]? = some x → ys[i]? = some y → Same H H' → ∀ R : VK, (∀ H4, Same H' H4 → R y H4) → te ((wipe σ vs).set k (some x)) H' R)
    (hd : ∀ D H', Same H H' → H D = none → H' D = some (.lst ys) → Q (.ref D) H') : tLc (iSeq K (tVar j)) (gName k) tt te vs σ H Q := by
  have st : ∀ D i x H', H D = none → xs[i]? = some x → Same H H' ∧ H' D = some (.lst (ys.take i)) → gName k x (wipe σ vs) H' fun σ2 H2 => wipe σ2 vs = wipe σ vs ∧ tt σ2 H2 fun b H3 =>
      if b = true then te σ2 H3 fun y H4 => ∃ acc, H4 D = some (.lst acc) ∧ acc.length < sizeLine ∧ (Same H (upd H4 D (.lst (acc ++ [y]))) ∧ (upd H4 D (.lst (acc ++ [y]))) D = some (.lst (ys.take (i + 1)))) else (Same H H3 ∧ H3 D = some (.lst (ys.take (i + 1)))) := by
    intro D i x H' nD hx ⟨s1, hD⟩
    have hi : i < ys.length := by
      rw [← hl]
      exact (List.getElem?_eq_some_iff.mp hx).1
    refine ⟨hw x, ht _ _ _ ?_⟩
    rw [if_pos rfl]
    refine hs i x ys[i] H' hx (List.getElem?_eq_getElem hi) s1 _ fun H4 s4 => ⟨_, s4 _ _ hD, ?_, same_mut (s1.trans s4) nD, ?_⟩
    · rw [List.length_take]
      omega
    · rw [upd_same, List.take_add_one, List.getElem?_eq_getElem hi]
      rfl
  have h0 : ∀ D, H D = none → Same H (upd H D (.lst [])) ∧ (upd H D (.lst [])) D = some (.lst (ys.take 0)) := fun D nD => ⟨same_upd nD, by rw [upd_same, List.take_zero]⟩
  have hq : ∀ D H', H D = none → Same H H' ∧ H' D = some (.lst (ys.take xs.length)) → Q (.ref D) H' := fun D H' nD ⟨s1, h1⟩ => hd D H' s1 nD (by rw [h1, hl, List.take_length])
  rcases hr with hr | hr
  · exact .inl ⟨_, hv, a, rfl, ⟨_, hr⟩, fun D nD => L2.lc_list (K := K) (a := a) (xs := xs) (fun i H' => Same H H' ∧ H' D = some (.lst (ys.take i))) (h0 D nD) (fun i H' _ p => p.1.seq hr) (fun i x H' hx p => st D i x H' nD hx p) (fun H' p => hq D H' nD p)⟩
  · exact .inr ⟨_, hv, a, rfl, ⟨_, hr⟩, fun D nD => L2.lc_tup (K := K) (a := a) (xs := xs) (fun i H' => Same H H' ∧ H' D = some (.lst (ys.take i))) (h0 D nD) (fun i H' _ p => sameT p.1 hr) (fun i x H' hx p => st D i x H' nD hx p) (fun H' p => hq D H' nD p)⟩
/-- the letter of a code -/
def lV (c : Nat) : V := .str (tx [c])
end BK

namespace BK
open PySem PySem.Spec PyProof.Rows L2

/-! ## defs that ask for a repr: known is that no repr is under way around them -/
structure FnG (P : Program) (w : World) (K : PySem.W.Frag) (mg : Str → Option Value) (base : Heap) (C : CXT) (k : Nat) (f : Addr) (fd : FuncData) (ps : List Str) (sp : Sp) : Prop where
  ln : ∀ vs H Q E, sp vs H Q E → vs.length = ps.length
  go : ∀ (A : Around) (out : List Env) (s : Shared) (H : Hp) (ar : Args) (us : List Value) (vs : List V) (Q : VK) (E : XK), A.guards = some [] → Room k A → Env0 P w K mg base A out s H →
    BindsTo s fd ar (ps.zip us) → Vals vs us → sp vs H Q E → codeAny (model P w) A (.call (.ref f) ar) (CR C out P w H s Q E) s
section
variable {P : Program} {w : World} {K : PySem.W.Frag} {mg : Str → Option Value} {base : Heap} {C : CXT} {k : Nat} {f : Addr} {fd : FuncData} {ps : List Str} {sp : Sp}
theorem FnG.up {j : Nat} (F : FnG P w K mg base C j f fd ps sp) (h : j ≤ k) : FnG P w K mg base C k f fd ps sp :=
  ⟨F.ln, fun A out s H ar us vs Q E hg hr => F.go A out s H ar us vs Q E hg (hr.mono h)⟩
/-- its body keeps the promise -/
theorem fnG_of {nm ql : Str} {pa : Arguments} {bd : List Stmt} {sc : Scope} {dv kv dc pm cv ct oc : Value} {an od : Option Addr} {sl : Array (Option Value)} {N : List Str}
    (lk : K.lookup f = some ⟨oc, od, .func (PySem.W.fnOf nm ql pa bd sc dv kv dc pm an cv ct), sl⟩) (hc : PySem.W.codeIn K cv ql = true) (S : FnScope N ps sc) (ln : ∀ vs H Q E, sp vs H Q E → vs.length = ps.length)
    (hb : ∀ (A : Around) (out : List Env) (s : Shared) (H : Hp) (vs : List V) (Q : VK) (E : XK), A.guards = some [] → Room k (A.deeper (envOfC ql sc s.heap.objs.size f cv)) → sp vs H Q E →
      ∃ t, PSs (cxOf C P w K mg base N ql sc f cv A out s H E) bd t ∧ t { nx := fun _ H' => Q .non H', rt := Q } (start N vs) H) :
    FnG P w K mg base C (k + 1) f (PySem.W.fnOf nm ql pa bd sc dv kv dc pm an cv ct) ps sp := by
  refine ⟨ln, ?_⟩
  intro A out s H ar us vs Q E hg hr e0 hbd r hsp
  have hlen := ln _ _ _ _ hsp
  have hK : K.In s.heap := e0.mod.kin.keeps (fun b o e => (e0.bs b o e).1)
  have hlim : s.heap.NoLimit := e0.mod.nolimit.keeps (fun b o e => (e0.bs b o e).1)
  have hki : ∀ z ∈ ps.zip us, sc.names.lookup z.1 = some .local ∨ (sc.names.lookup z.1 = some .cell ∧ ((cellsFrom (s.heap.objs.size + 1) sc.names []).lookup z.1).isSome = true) := by
    rintro ⟨n, v⟩ hz
    rcases S.par n (List.of_mem_zip hz).1 with h | h
    · exact Or.inl h
    · exact Or.inr ⟨h, PySem.W.cellsFrom_some _ _ _ (Or.inl h)⟩
  refine codeAny_call_function hr.depth (hK _ _ lk) rfl S.co S.gen rfl (PySem.W.codeRec_of hK hc) (hbd _ _ _ _ ?_)
  refine wpAny_newFunctionEnv_cells S.kind hki (fun en hen sB xi => ?_)
  subst hen
  refine ⟨hlim.keeps xi.toInCall.keep, codeAny_func ?_⟩
  obtain ⟨t, ht, hq⟩ := hb A out s H vs Q E hg (hr.deeper _) hsp
  have J0 : Inv (cxOf C P w K mg base N ql sc f cv A out s H E) [] (start N vs) H sB := inv_start S hr.hd e0 hlen r xi
  refine wpAny_mono (ht.run [] sB (start N vs) H _ J0 hq) (fun fl sE hE => ?_) (fun e sE hE => hE)
  cases fl with
  | ret u =>
    obtain ⟨v, τ, HE, J, rv, q⟩ := hE
    exact ⟨v, HE, J.os, J.bare, J.base, J.hok, rv, q⟩
  | next =>
    obtain ⟨τ, HE, J, q⟩ := hE
    exact ⟨V.non, HE, J.os, J.bare, J.base, J.hok, (rfl : RelV .non Value.none), q⟩
  | brk => exact hE.elim fun _ z => z.elim fun _ z => z.2.elim
  | cont => exact hE.elim fun _ z => z.elim fun _ z => z.2.elim
end
section
variable {P : Program} {w : World} {K : PySem.W.Frag} {mg : Str → Option Value} {base : Heap}
theorem funG {x ql : Str} {st : Stmt} {f : Addr} {fd : FuncData} {N ps : List Str} {k : Nat} {sp : Sp} (F : Fun K x ql st f fd) (S : FnScope N ps (defScope st)) (ln : ∀ vs H Q E, sp vs H Q E → vs.length = ps.length)
    (hb : ∀ (cv : Value) (A : Around) (out : List Env) (s : Shared) (H : Hp) (vs : List V) (Q : VK) (E : XK), A.guards = some [] → Room k (A.deeper (envOfC ql (defScope st) s.heap.objs.size f cv)) → sp vs H Q E →
      ∃ t, PSs (cxOf CX0 P w K mg base N ql (defScope st) f cv A out s H E).nox (defBody st) t ∧ t { nx := fun _ H' => Q .non H', rt := Q } (start N vs) H) : FnG P w K mg base CX0 (k + 1) f fd ps sp := by
  obtain ⟨oc, od, kv, dc, pm, an, cv, ct, sl, rfl, lk, hc⟩ := F.ex
  exact fnG_of lk hc S ln fun A out s H vs Q E hg hr hsp => let ⟨t, h, q⟩ := hb cv A out s H vs Q E hg hr hsp; ⟨t, h.nox, q⟩
end
section
variable {X : Cx} {C : CXT} {k : Nat} {f : Addr} {fd : FuncData} {ps : List Str} {sp : Sp} {dvs : List V} {ds : List Value} {E : XK} {x : Str} {p pos : Pos} {e : Expr} {es : List Expr} {t : TA}
theorem run_G {pins : List (Addr × Obj)} {σ : L2.St} {H : Hp} {s : Shared} {Q : VK} {us : List Value} {vs : List V} (F : FnG X.prog X.w X.K X.mg X.base C k f fd ps sp) (hg : X.A.guards = some []) (hr : Room k X.A) (hb : Binds X.K fd ps ds) (hd : Vals dvs ds) (hx : Passes C X E)
    (I : L2.Inv X pins σ H s) (r : Vals vs us) (h : sp (vs ++ dvs) H Q E) : wpAny (model X.prog X.w) X.A (call (.ref f) us) (EP X pins σ Q) X.xe s := by
  have rr : Vals (vs ++ dvs) (us ++ ds) := r.append hd
  have hl : (us ++ ds).length = ps.length := rr.length.symm.trans (F.ln _ _ _ _ h)
  refine wpAny_call (codeAny_mono (F.go X.A X.stack s H ⟨us, []⟩ (us ++ ds) (vs ++ dvs) Q E hg hr I.env0 (hb s us I.kIn hl) rr h) (fun r sE hE => ?_))
  match r, hE with
  | .error e, hE => exact hx pins σ H s e sE I hE
  | .ok (.ret u), hE => exact I.after hE
theorem pe_callG (F : FnG X.prog X.w X.K X.mg X.base C k f fd ps sp) (hg : X.A.guards = some []) (hr : Room k X.A) (hgl : Gl X x) (hm : X.mg x = some (.ref f)) (hk : PySem.W.keepIn X.K (.ref f) = true) (hb : Binds X.K fd ps ds) (hd : Vals dvs ds) (hx : Passes C X E)
    (ha : PA X (e :: es) t) (hdb : (x == ("__debug__" : Str)) = false := by decide) (he : starEach (e :: es) X.env = (false, eval e X.env) :: starEach es X.env := by rfl) (hpl : (backTo pos (starEach es X.env)).any (·.1) = false := by rfl) :
    PE X (.Call (.Name x p) (e :: es) [] pos) (tCall sp dvs E t) := by
  constructor
  intro pins s σ H Q I h
  refine wpAny_Call_Name_kw (ld_glob I hgl hm ?_ hdb)
  exact PySem.W.callWith_K (h₀ := X.base) I.ok.mod.kin hk (thn (ha.run pos pins s σ H _ I h) (fun us sB ⟨vs, HB, J, r, q⟩ => ⟨J.kIn, run_G F hg hr hb hd hx J r q⟩)) he hpl
end

/-! ## the law's promise at the heap behind the top -/
/-- a law that may ask for reprs, from what its def promises -/
theorem law_G {P : Program} {w : World} {K : PySem.W.Frag} {mg mb : Str → Option Value} {C : CXT} {k : Nat} {fa a : Addr} {fd : FuncData} {x : Str} {sp : Sp} {s : Shared} {vs : List Value} {ns : List Int}
    (KX : K.In s.heap) (hns : s.heap.Ns mainGlobals mg) (hb : s.heap.Ns builtinsNs mb) (hbb : ∀ x : Str, x ≠ "__name__" → mb x = bootBuiltins x) (hlim : s.heap.NoLimit) (hgen : s.gens = #[])
    (ha : s.heap.get? a = some { cls := .type "list", data := .seq vs.toArray }) (hi : IntsAre vs ns) (hl : ns.length ≤ sizeLine) (hr : Room k callerA)
    (F : ∀ b : Heap, K.In b → b.Ns mainGlobals mg → FnG P w K mg b C k fa fd [x] sp) (hbind : ∀ (s : Shared) (u : Value), BindsTo s fd ⟨[u], []⟩ [(x, u)])
    (hsp : ∀ H : Hp, Only H → SqL K H a (ns.map V.int) → sp [.ref a] H (fun v _ => v = .bl true) fun _ _ _ => False)
    (hC : ∀ H e s', C [] H s (fun _ _ _ => False) e s' → False) :
    codeAny (model P w) callerA (.call (.ref fa) ⟨[.ref a], []⟩) (fun r s' => r = .ok (.ret (.bool true)) ∧ OldK s.heap s'.heap ∧ s'.os = s.os ∧ AllBare s'.gens) s := by
  have rv := vals_ints hi
  have lv := hi.length
  -- H tracks nothing, or the script alone
  suffices core : ∀ H : Hp, Only H → SqL K H a (ns.map V.int) → HOk P w H s.heap → (∀ b, H b ≠ none → b = a) → (H a ≠ none → K.lookup a = none) →
      codeAny (model P w) callerA (.call (.ref fa) ⟨[.ref a], []⟩) (fun r s' => r = .ok (.ret (.bool true)) ∧ OldK s.heap s'.heap ∧ s'.os = s.os ∧ AllBare s'.gens) s by
    cases hk : K.lookup a with
    | some o =>
      have e := (KX a o hk).symm.trans ha
      cases e
      exact core (fun _ => none) (fun _ => .inl rfl) (.inr ⟨_, vs.toArray, _, hk, rfl, rfl, rfl, by rw [List.size_toArray, lv]; exact hl, by simpa using rv⟩) (fun b u z => nomatch z) (fun b z => absurd rfl z) (fun z => absurd rfl z)
    | none =>
      let o : HO := .frz { cls := .type "list", data := .seq vs.toArray } (.lst (ns.map V.int))
      have at_a : ∀ {b u}, upd (fun _ => none) a o b = some u → b = a ∧ u = o := fun {b u} z => by
        by_cases hba : b = a
        · subst hba
          rw [upd_same] at z
          exact ⟨rfl, (Option.some.inj z).symm⟩
        · rw [upd_ne hba] at z
          exact nomatch z
      have uo : upd (fun _ => none) a o a = some (.frz { cls := .type "list", data := .seq vs.toArray } (.lst (ns.map V.int))) := upd_same
      refine core (upd (fun _ => none) a o) (fun b => ?_) (.inl (.inr ⟨_, uo⟩)) (fun b u z => ?_) (fun b z => ?_) (fun _ => hk)
      · by_cases hba : b = a
        · subst hba
          exact Or.inr ⟨_, _, uo⟩
        · exact .inl (upd_ne hba)
      · obtain ⟨rfl, rfl⟩ := at_a z
        exact ⟨ha, by rw [List.length_map]; exact hl, vs, _, rv, ha⟩
      · cases q : upd (fun _ => none) a o b with
        | none => exact absurd q z
        | some u => exact (at_a q).1
  intro H hO hS hok hA hKa
  have low : ∀ {b : Addr} {o : Obj}, s.heap.get? b = some o → (H b ≠ none → False) → (hidT s.heap H).get? b = some o := fun {b o} e n => by
    refine hidT_get e ?_
    cases q : H b with
    | none => rfl
    | some u => exact (n (by rw [q]; exact nofun)).elim
  have nsK : ∀ {b : Addr} {m : Str → Option Value}, s.heap.Ns b m → (hidT s.heap H).Ns b m := by
    rintro b m ⟨o, es, ep, e, d, r⟩
    refine ⟨o, es, ep, low e (fun n => ?_), d, r⟩
    have eb := hA b n
    subst eb
    have eo := e.symm.trans ha
    cases eo
    cases (show Data.seq vs.toArray _ = Data.dict es ep from d)
  have hKb : K.In (hidT s.heap H) := fun b o e => low (KX b o e) (fun n => by
    have eb := hA b n
    subst eb
    rw [hKa n] at e
    cases e)
  obtain ⟨mc, hm1, hm2⟩ := hlim
  have hM : Mod K mg (hidT s.heap H) := ⟨hKb, nsK hns, ⟨mb, nsK hb, hbb⟩, mc, nsK hm1, hm2⟩
  have e0 : Env0 P w K mg (hidT s.heap H) callerA [] s H := ⟨rfl, hM, fun b o e => of_hidT e, Nat.le_of_eq (hidT_size _ _), trivial, fun b hb => (List.not_mem_nil hb).elim, hok, .of_eq hgen⟩
  refine codeAny_mono ((F _ hKb (nsK hns)).go callerA [] s H ⟨[.ref a], []⟩ [.ref a] [.ref a] _ _ rfl hr e0 (hbind s (.ref a)) (.cons rfl .nil) (hsp H hO hS)) (fun r s' h => ?_)
  match r, h with
  | .error e, h => exact (hC H e s' h).elim
  | .ok (.ret u), h =>
    obtain ⟨v, HE, os, bare, un, hokE, rr, q⟩ := h
    obtain rfl : v = .bl true := q
    obtain rfl : u = Value.bool true := rr
    refine ⟨rfl, OldK.of_keep (fun b o e => ?_), os, bare⟩
    rcases hO b with z | ⟨ob, xs, z⟩
    · exact un.keep b o e z (fun z => (List.not_mem_nil z).elim) (fun z => (List.not_mem_nil z).elim)
    · have e1 := (hok b _ z).1
      have e2 := (hokE b _ (un.frzs b ob _ z)).1
      rw [e] at e1
      cases e1
      exact e2
theorem walk_G {l : PySem.W.OpenLaw} {n k : Nat} {q : Program} {lo : List Str} {XP : (Str → Option Value) → Heap → Prop} {YP : World → Heap → Prop} {d : DefRec} {K : Params → PySem.W.Frag} {C : World → CXT} {sp : World → Sp} {x : Str}
    (hn : l.most = some n) (hz : n ≤ sizeLine) (hdf : d.params.defaults = []) (hr : Room k callerA) (hY : ∀ (w : World) (h : Heap), YP w h → (K w.params).In h)
    (F : ∀ (w : World) (mg : Str → Option Value) (fa : Addr) (h : Heap), (K w.params).In h → h.Ns mainGlobals mg → mg d.name = some (.ref fa) →
      ∃ fd : FuncData, (∀ (s : Shared) (u : Value), BindsTo s fd ⟨[u], []⟩ [(x, u)]) ∧ ∀ b : Heap, (K w.params).In b → b.Ns mainGlobals mg → FnG l.prog w (K w.params) mg b (C w) k fa fd [x] (sp w))
    (hsp : ∀ (w : World) (H : Hp) (a : Addr) (ns : List Int), ns.length ≤ n → Only H → SqL (K w.params) H a (ns.map V.int) → sp w [.ref a] H (fun v _ => v = .bl true) fun _ _ _ => False)
    (hC : ∀ (w : World) (H : Hp) (s : Shared) (e : Value) (s' : Shared), C w [] H s (fun _ _ _ => False) e s' → False) :
    PySem.W.WalkO q lo XP YP l.row.toRowW d [] (fun f vs => PySem.call f vs) := by
  refine Att.attach_call hn hdf ?_
  intro w s0 s1 mg mb fa o pm cd doc a vs ns G Y ho hd hcd hmg hob hin hle hgn
  obtain ⟨fd, hb, hF⟩ := F w mg fa _ (hY w _ Y) G.T.g hmg
  exact law_G (hY w _ Y) G.T.g G.T.b G.T.builtins G.T.nolimit hgn hob hin (Nat.le_trans hle hz) hr hF hb (fun H hO hS => hsp w H a ns hle hO hS) (fun H e s' => hC w H s1 e s')
end BK

namespace BK
open PySem PySem.Spec PyProof.Rows L2

/-! ## reprs of handed things -/
mutual
def Dt.py : Dt → PyData
  | .non => .none
  | .bl b => .bool b
  | .int i => .int i
  | .str w => .str (tx w)
  | .lst ds => .list (pyAll ds)
  | .tup ds => .tuple (pyAll ds)
  | .dic => .dict []
def pyAll : List Dt → List PyData
  | [] => []
  | d :: ds => d.py :: pyAll ds
end
mutual
/-- what has a short repr; no dict within -/
def Fits : Dt → Prop
  | .non => True
  | .bl _ => True
  | .int i => i.natAbs < 10 ^ 47
  | .str w => ∀ c ∈ w, c < 4294967296
  | .lst ds => FitsAll ds
  | .tup ds => FitsAll ds
  | .dic => False
def FitsAll : List Dt → Prop
  | [] => True
  | d :: ds => Fits d ∧ FitsAll ds
end
mutual
def deep : Dt → Nat
  | .lst ds => deepAll ds + 1
  | .tup ds => deepAll ds + 1
  | .dic => 1
  | _ => 0
def deepAll : List Dt → Nat
  | [] => 0
  | d :: ds => max (deep d) (deepAll ds)
end
mutual
def bulk : Dt → Nat
  | .str w => w.length
  | .lst ds => bulkAll ds
  | .tup ds => bulkAll ds
  | _ => 0
def bulkAll : List Dt → Nat
  | [] => 0
  | d :: ds => bulk d + 1 + bulkAll ds
end
theorem fitsAll_of : ∀ {ds : List Dt}, (∀ d ∈ ds, Fits d) → FitsAll ds
  | [], _ => by unfold FitsAll; trivial
  | d :: ds, h => by unfold FitsAll; exact ⟨h d (List.mem_cons_self ..), fitsAll_of fun x hx => h x (List.mem_cons_of_mem _ hx)⟩
theorem deepAll_le {n : Nat} : ∀ {ds : List Dt}, (∀ d ∈ ds, deep d ≤ n) → deepAll ds ≤ n
  | [], _ => by unfold deepAll; exact Nat.zero_le _
  | d :: ds, h => by
    unfold deepAll
    have h1 := h d (List.mem_cons_self ..)
    have h2 := deepAll_le (n := n) (ds := ds) fun x hx => h x (List.mem_cons_of_mem _ hx)
    omega
theorem bulkAll_le {n : Nat} : ∀ {ds : List Dt}, (∀ d ∈ ds, bulk d ≤ n) → bulkAll ds ≤ ds.length * (n + 1)
  | [], _ => by unfold bulkAll; exact Nat.zero_le _
  | d :: ds, h => by
    unfold bulkAll
    have h1 := h d (List.mem_cons_self ..)
    have h2 := bulkAll_le (n := n) (ds := ds) fun x hx => h x (List.mem_cons_of_mem _ hx)
    rw [List.length_cons, Nat.add_mul, Nat.one_mul]
    omega
mutual
theorem depth_py : ∀ d : Dt, d.py.depth = deep d
  | .non => by simp only [Dt.py, PyData.depth, deep]
  | .bl _ => by simp only [Dt.py, PyData.depth, deep]
  | .int _ => by simp only [Dt.py, PyData.depth, deep]
  | .str _ => by simp only [Dt.py, PyData.depth, deep]
  | .lst ds => by simp only [Dt.py, PyData.depth, deep, depth_all ds]
  | .tup ds => by simp only [Dt.py, PyData.depth, deep, depth_all ds]
  | .dic => by simp only [Dt.py, PyData.depth, PyData.depthKv, deep]
theorem depth_all : ∀ ds : List Dt, PyData.depthAll (pyAll ds) = deepAll ds
  | [] => by simp only [pyAll, PyData.depthAll, deepAll]
  | d :: ds => by simp only [pyAll, PyData.depthAll, deepAll, depth_py d, depth_all ds]
end
mutual
theorem bulk_py : ∀ d : Dt, d.py.bulk = bulk d
  | .non => by simp only [Dt.py, PyData.bulk, bulk]
  | .bl _ => by simp only [Dt.py, PyData.bulk, bulk]
  | .int _ => by simp only [Dt.py, PyData.bulk, bulk]
  | .str w => by simp only [Dt.py, PyData.bulk, bulk, tx, List.size_toArray]
  | .lst ds => by simp only [Dt.py, PyData.bulk, bulk, bulk_all ds]
  | .tup ds => by simp only [Dt.py, PyData.bulk, bulk, bulk_all ds]
  | .dic => by simp only [Dt.py, PyData.bulk, PyData.bulkKv, bulk]
theorem bulk_all : ∀ ds : List Dt, PyData.bulkAll (pyAll ds) = bulkAll ds
  | [] => by simp only [pyAll, PyData.bulkAll, bulkAll]
  | d :: ds => by simp only [pyAll, PyData.bulkAll, bulkAll, bulk_py d, bulk_all ds]
end
theorem int48 {i : Int} (h : i.natAbs < 10 ^ 47) : (PyData.shown (.int i)).length ≤ 48 := by
  show (Str.ofString (toString i)).length ≤ 48
  rw [PySem.ofString_length]
  exact int_text_length_le10 (k := 47) (by decide) h
theorem int_log {i : Int} (h : i.natAbs < 10 ^ 47) : i.natAbs.log2 < 1920 := by
  have h2 : i.natAbs < 2 ^ 160 := Nat.lt_of_lt_of_le h (by decide)
  by_cases h0 : i.natAbs = 0
  · rw [h0]
    decide
  · have := (Nat.log2_lt h0).mpr h2
    omega
mutual
theorem fits_short : ∀ d : Dt, Fits d → d.py.leavesShort 48 = true
  | .non, _ => by simp only [Dt.py, PyData.leavesShort]
  | .bl _, _ => by simp only [Dt.py, PyData.leavesShort]
  | .int i, h => by
    unfold Fits at h
    simp only [Dt.py, PyData.leavesShort, decide_eq_true_eq]
    exact int48 h
  | .str w, h => by
    unfold Fits at h
    simp only [Dt.py, PyData.leavesShort, tx_cps, List.all_eq_true, decide_eq_true_eq]
    exact fun c hc => h c hc
  | .lst ds, h => by
    unfold Fits at h
    simp only [Dt.py, PyData.leavesShort]
    exact fitsAll_short ds h
  | .tup ds, h => by
    unfold Fits at h
    simp only [Dt.py, PyData.leavesShort]
    exact fitsAll_short ds h
  | .dic, h => by unfold Fits at h; exact h.elim
theorem fitsAll_short : ∀ ds : List Dt, FitsAll ds → PyData.leavesShortAll 48 (pyAll ds) = true
  | [], _ => by simp only [pyAll, PyData.leavesShortAll]
  | d :: ds, h => by
    unfold FitsAll at h
    simp only [pyAll, PyData.leavesShortAll, Bool.and_eq_true]
    exact ⟨fits_short d h.1, fitsAll_short ds h.2⟩
end
mutual
theorem fits_show : ∀ d : Dt, Fits d → d.py.showable = true ∧ d.py.hasDict = false
  | .non, _ => by simp only [Dt.py, PyData.showable, PyData.hasDict, and_self]
  | .bl _, _ => by simp only [Dt.py, PyData.showable, PyData.hasDict, and_self]
  | .int i, h => by
    unfold Fits at h
    simp only [Dt.py, PyData.showable, PyData.hasDict, decide_eq_true_eq, and_true]
    exact int_log h
  | .str w, h => by simp only [Dt.py, PyData.showable, PyData.hasDict, and_self]
  | .lst ds, h => by
    unfold Fits at h
    simp only [Dt.py, PyData.showable, PyData.hasDict]
    exact fitsAll_show ds h
  | .tup ds, h => by
    unfold Fits at h
    simp only [Dt.py, PyData.showable, PyData.hasDict]
    exact fitsAll_show ds h
  | .dic, h => by unfold Fits at h; exact h.elim
theorem fitsAll_show : ∀ ds : List Dt, FitsAll ds → PyData.showableAll (pyAll ds) = true ∧ PyData.hasDictAll (pyAll ds) = false
  | [], _ => by simp only [pyAll, PyData.showableAll, PyData.hasDictAll, and_self]
  | d :: ds, h => by
    unfold FitsAll at h
    have h1 := fits_show d h.1
    have h2 := fitsAll_show ds h.2
    simp only [pyAll, PyData.showableAll, PyData.hasDictAll, h1.1, h1.2, h2.1, h2.2, Bool.and_self, Bool.or_self, and_self]
end
section
variable {X : Cx} {pins : List (Addr × Obj)} {σ : L2.St} {H : Hp} {s : Shared}
mutual
theorem reads_at (I : L2.Inv X pins σ H s) : ∀ (d : Dt) (v : V) (u : Value), At X.K H v d → RelV v u → Fits d → ∃ as, Reads s.heap u d.py as
  | .non, v, u, h, r, _ => by
    unfold At at h
    subst h
    cases (show u = Value.none from r)
    simp only [Dt.py]
    exact ⟨_, .none⟩
  | .bl b, v, u, h, r, _ => by
    unfold At at h
    subst h
    cases (show u = Value.bool b from r)
    simp only [Dt.py]
    exact ⟨_, .bool b⟩
  | .int i, v, u, h, r, _ => by
    unfold At at h
    subst h
    obtain ⟨t, rfl⟩ := r
    simp only [Dt.py]
    exact ⟨_, .int i t⟩
  | .str w, v, u, h, r, _ => by
    unfold At at h
    obtain ⟨rfl, _⟩ := h
    obtain ⟨t, rfl⟩ := r
    simp only [Dt.py]
    exact ⟨_, .str _ t⟩
  | .lst ds, v, u, h, r, f => by
    unfold At at h
    unfold Fits at f
    obtain ⟨a, xs, rfl, h1, h2⟩ := h
    cases (show u = Value.ref a from r)
    obtain ⟨its, rv, ⟨o, n, e1, e2, _, e3⟩, _⟩ := I.list h1
    obtain ⟨as, k⟩ := reads_ats I ds xs its h2 rv f
    simp only [Dt.py]
    exact ⟨_, .list e1 e2 e3 (by rw [List.toList_toArray]; exact k)⟩
  | .tup ds, v, u, h, r, f => by
    unfold At at h
    unfold Fits at f
    obtain ⟨a, xs, rfl, h1, h2⟩ := h
    cases (show u = Value.ref a from r)
    obtain ⟨its, rv, ⟨o, e1, e2, n, e3⟩, _⟩ := I.tuple h1
    obtain ⟨as, k⟩ := reads_ats I ds xs its h2 rv f
    simp only [Dt.py]
    exact ⟨_, .tuple e1 e2 e3 (by rw [List.toList_toArray]; exact k)⟩
  | .dic, v, u, h, r, f => by unfold Fits at f; exact f.elim
theorem reads_ats (I : L2.Inv X pins σ H s) : ∀ (ds : List Dt) (vs : List V) (us : List Value), Ats X.K H vs ds → Vals vs us → FitsAll ds → ∃ as, ReadsAll s.heap us (pyAll ds) as
  | [], vs, us, h, r, _ => by
    unfold Ats at h
    subst h
    cases r
    simp only [pyAll]
    exact ⟨_, .nil⟩
  | d :: ds, vs, us, h, r, f => by
    unfold Ats at h
    unfold FitsAll at f
    obtain ⟨v, ws, rfl, h1, h2⟩ := h
    cases r with
    | cons r1 r2 =>
      obtain ⟨a1, k1⟩ := reads_at I d v _ h1 r1 f.1
      obtain ⟨a2, k2⟩ := reads_ats I ds ws _ h2 r2 f.2
      simp only [pyAll]
      exact ⟨_, .cons k1 k2⟩
end
end
/-- a thing's repr -/
def shw (d : Dt) : Str := d.py.shown
def Neat (d : Dt) : Prop := Fits d ∧ deep d ≤ 60 ∧ bulk d ≤ 300000
theorem neat_size {d : Dt} (h : Neat d) : (shw d).length ≤ sizeLine := by
  have h1 := PyData.shown_le_bulk 48 (by decide) d.py (fits_short d h.1)
  rw [bulk_py] at h1
  have h2 : (48 + 2) * bulk d ≤ 50 * 300000 := Nat.mul_le_mul (Nat.le_refl _) h.2.2
  have h3 : sizeLine = 16777216 := by decide
  unfold shw
  omega
def rRepr (K : PySem.W.Frag) : List V → Hp → VK → Prop := fun xs H Q => ∃ (p : Addr) (d : Dt), xs = [.ref p] ∧ At K H (.ref p) d ∧ Neat d ∧ Q (.str (shw d)) H
theorem call_reprG {X : Cx} (hg : X.A.guards = some []) (hu : X.A.units + 64 < cLine) : CallR X (.builtin "repr") (rRepr X.K) := by
  intro pins s σ H xs us Q I r h
  obtain ⟨p, d, rfl, hat, hn, q⟩ := h
  obtain ⟨u, rfl, rp⟩ := vals1 r
  cases (show u = Value.ref p from rp)
  obtain ⟨as, rd⟩ := reads_at I d _ _ hat rfl hn.1
  have hs := fits_show d hn.1
  refine repr_of_reads' rd hs.1 (fun z => absurd z (by rw [hs.2]; exact Bool.false_ne_true)) hg (by rw [depth_py]; have := hn.2.1; omega) (fun _ _ e => e) (fun h' t tk hk => ?_) (neat_size hn)
  exact ⟨.str (shw d), H, I.kept (t' := tk) (fun b o e => hk b o e), ⟨t, rfl⟩, q⟩
end BK

namespace BK
open PySem PySem.Spec PyProof.Rows L2

/-! ## things, lists and tuples not told apart -/
mutual
def norm : Dt → Dt
  | .lst ds => .lst (normAll ds)
  | .tup ds => .lst (normAll ds)
  | .non => .non
  | .bl b => .bl b
  | .int i => .int i
  | .str w => .str w
  | .dic => .dic
def normAll : List Dt → List Dt
  | [] => []
  | d :: ds => norm d :: normAll ds
end
theorem normAll_map : ∀ ds : List Dt, normAll ds = ds.map norm
  | [] => by simp only [normAll, List.map_nil]
  | d :: ds => by simp only [normAll, List.map_cons, normAll_map ds]
mutual
theorem norm_norm : ∀ d : Dt, norm (norm d) = norm d
  | .lst ds => by simp only [norm, normAll_normAll ds]
  | .tup ds => by simp only [norm, normAll_normAll ds]
  | .non => by simp only [norm]
  | .bl b => by simp only [norm]
  | .int i => by simp only [norm]
  | .str w => by simp only [norm]
  | .dic => by simp only [norm]
theorem normAll_normAll : ∀ ds : List Dt, normAll (normAll ds) = normAll ds
  | [] => by simp only [normAll]
  | d :: ds => by simp only [normAll, norm_norm d, normAll_normAll ds]
end
theorem row_norm (d : Dt) : isRow (norm d) = isRow d := by cases d <;> simp only [norm, isRow]
theorem items_norm (d : Dt) : (norm d).items = d.items.map norm := by cases d <;> simp only [norm, Dt.items, normAll_map, List.map_nil]
theorem whole_norm (d : Dt) (lo : Int) : isWhole (norm d) lo = isWhole d lo := by cases d <;> simp only [norm, isWhole]
theorem within_norm (d : Dt) (lo hi : Int) : isWithin (norm d) lo hi = isWithin d lo hi := by cases d <;> simp only [norm, isWithin]
theorem word_norm (d : Dt) : isWord (norm d) = isWord d := by cases d <;> simp only [norm, isWord]
theorem plain_norm (d : Dt) : isPlain (norm d) = isPlain d := by cases d <;> simp only [norm, isPlain]
theorem piece_norm (d : Dt) : isPiece (norm d) = isPiece d := by
  unfold isPiece
  rw [row_norm, items_norm]
  congr 1
  match d.items with
  | [] => rfl
  | [a] => rfl
  | [a, b] =>
    show (isWord (norm a) && isWhole (norm b) 1) = (isWord a && isWhole b 1)
    rw [word_norm, whole_norm]
  | a :: b :: c :: r => rfl
theorem pcOf_norm (d : Dt) : pcOf (norm d) = pcOf d := by
  unfold pcOf
  rw [items_norm]
  match d.items with
  | [] => rfl
  | [a] => cases a <;> simp only [norm, List.map_cons, List.map_nil]
  | [a, b] => cases a <;> cases b <;> simp only [norm, List.map_cons, List.map_nil]
  | a :: b :: c :: r => cases a <;> cases b <;> simp only [norm, List.map_cons]
theorem pieceSize_norm (d : Dt) : pieceSize (norm d) = pieceSize d := by
  unfold pieceSize
  rw [items_norm]
  match d.items with
  | [] => rfl
  | [a] => cases a <;> simp only [norm, List.map_cons, List.map_nil]
  | [a, b] => cases a <;> cases b <;> simp only [norm, List.map_cons, List.map_nil]
  | a :: b :: c :: r => cases a <;> cases b <;> simp only [norm, List.map_cons]
theorem isText_norm (d : Dt) : isText (norm d) = isText d := by
  unfold isText
  rw [row_norm, items_norm, List.length_map, List.all_map, List.map_map]
  have e1 : (isPiece ∘ norm) = isPiece := funext piece_norm
  have e2 : (pieceSize ∘ norm) = pieceSize := funext pieceSize_norm
  rw [e1, e2]
theorem pcs_norm (d : Dt) : pcs (norm d) = pcs d := by
  unfold pcs
  rw [items_norm, List.map_map, show (pcOf ∘ norm) = pcOf from funext pcOf_norm]
theorem isText_like {d e : Dt} (h : norm e = norm d) : isText e = isText d := by rw [← isText_norm, h, isText_norm]
theorem pcs_like {d e : Dt} (h : norm e = norm d) : pcs e = pcs d := by rw [← pcs_norm, h, pcs_norm]
mutual
theorem fits_norm : ∀ d : Dt, Fits (norm d) = Fits d
  | .lst ds => by simp only [norm, Fits, fitsAll_norm ds]
  | .tup ds => by simp only [norm, Fits, fitsAll_norm ds]
  | .non => by simp only [norm]
  | .bl b => by simp only [norm]
  | .int i => by simp only [norm]
  | .str w => by simp only [norm]
  | .dic => by simp only [norm]
theorem fitsAll_norm : ∀ ds : List Dt, FitsAll (normAll ds) = FitsAll ds
  | [] => by simp only [normAll]
  | d :: ds => by simp only [normAll, FitsAll, fits_norm d, fitsAll_norm ds]
end
mutual
theorem deep_norm : ∀ d : Dt, deep (norm d) = deep d
  | .lst ds => by simp only [norm, deep, deepAll_norm ds]
  | .tup ds => by simp only [norm, deep, deepAll_norm ds]
  | .non => by simp only [norm]
  | .bl b => by simp only [norm]
  | .int i => by simp only [norm]
  | .str w => by simp only [norm]
  | .dic => by simp only [norm]
theorem deepAll_norm : ∀ ds : List Dt, deepAll (normAll ds) = deepAll ds
  | [] => by simp only [normAll]
  | d :: ds => by simp only [normAll, deepAll, deep_norm d, deepAll_norm ds]
end
mutual
theorem bulk_norm : ∀ d : Dt, bulk (norm d) = bulk d
  | .lst ds => by simp only [norm, bulk, bulkAll_norm ds]
  | .tup ds => by simp only [norm, bulk, bulkAll_norm ds]
  | .non => by simp only [norm]
  | .bl b => by simp only [norm]
  | .int i => by simp only [norm]
  | .str w => by simp only [norm]
  | .dic => by simp only [norm]
theorem bulkAll_norm : ∀ ds : List Dt, bulkAll (normAll ds) = bulkAll ds
  | [] => by simp only [normAll]
  | d :: ds => by simp only [normAll, bulkAll, bulk_norm d, bulkAll_norm ds]
end
theorem neat_like {d e : Dt} (h : norm e = norm d) (n : Neat d) : Neat e := by
  refine ⟨?_, ?_, ?_⟩
  · rw [← fits_norm, h, fits_norm]
    exact n.1
  · rw [← deep_norm, h, deep_norm]
    exact n.2.1
  · rw [← bulk_norm, h, bulk_norm]
    exact n.2.2

/-! ## new lists all through: their rooms -/
mutual
def AtF (H : Hp) : V → Dt → List Addr → Prop
  | v, .lst ds, fp => ∃ a xs fs, v = .ref a ∧ H a = some (.lst xs) ∧ AtFs H xs ds fs ∧ fp = a :: fs
  | v, .non, fp => v = .non ∧ fp = []
  | v, .bl b, fp => v = .bl b ∧ fp = []
  | v, .int i, fp => v = .int i ∧ fp = []
  | v, .str w, fp => v = .str (tx w) ∧ w.length ≤ 1000000 ∧ fp = []
  | _, .tup _, _ => False
  | _, .dic, _ => False
def AtFs (H : Hp) : List V → List Dt → List Addr → Prop
  | vs, [], fp => vs = [] ∧ fp = []
  | vs, d :: ds, fp => ∃ v us f fs, vs = v :: us ∧ AtF H v d f ∧ AtFs H us ds fs ∧ fp = f ++ fs
end
mutual
theorem AtF.same {H H' : Hp} : ∀ (d : Dt) (v : V) (fp : List Addr), AtF H v d fp → (∀ b o, b ∈ fp → H b = some o → H' b = some o) → AtF H' v d fp
  | .lst ds, v, fp, h, e => by
    unfold AtF at h ⊢
    obtain ⟨a, xs, fs, rfl, h1, h2, rfl⟩ := h
    exact ⟨a, xs, fs, rfl, e _ _ (List.mem_cons_self ..) h1, AtFs.same ds xs fs h2 (fun b o hb => e b o (List.mem_cons_of_mem _ hb)), rfl⟩
  | .non, v, fp, h, e => by unfold AtF at h ⊢; exact h
  | .bl b, v, fp, h, e => by unfold AtF at h ⊢; exact h
  | .int i, v, fp, h, e => by unfold AtF at h ⊢; exact h
  | .str w, v, fp, h, e => by unfold AtF at h ⊢; exact h
  | .tup _, v, fp, h, e => by unfold AtF at h; exact h.elim
  | .dic, v, fp, h, e => by unfold AtF at h; exact h.elim
theorem AtFs.same {H H' : Hp} : ∀ (ds : List Dt) (vs : List V) (fp : List Addr), AtFs H vs ds fp → (∀ b o, b ∈ fp → H b = some o → H' b = some o) → AtFs H' vs ds fp
  | [], vs, fp, h, e => by unfold AtFs at h ⊢; exact h
  | d :: ds, vs, fp, h, e => by
    unfold AtFs at h ⊢
    obtain ⟨v, us, f, fs, rfl, h1, h2, rfl⟩ := h
    exact ⟨v, us, f, fs, rfl, AtF.same d v f h1 (fun b o hb => e b o (List.mem_append_left _ hb)), AtFs.same ds us fs h2 (fun b o hb => e b o (List.mem_append_right _ hb)), rfl⟩
end
mutual
theorem AtF.at {K : PySem.W.Frag} {H : Hp} : ∀ (d : Dt) (v : V) (fp : List Addr), AtF H v d fp → At K H v d
  | .lst ds, v, fp, h => by
    unfold AtF at h
    obtain ⟨a, xs, fs, rfl, h1, h2, rfl⟩ := h
    unfold At
    exact ⟨a, xs, rfl, SqL.of h1, AtFs.at ds xs fs h2⟩
  | .non, v, fp, h => by unfold AtF at h; unfold At; exact h.1
  | .bl b, v, fp, h => by unfold AtF at h; unfold At; exact h.1
  | .int i, v, fp, h => by unfold AtF at h; unfold At; exact h.1
  | .str w, v, fp, h => by unfold AtF at h; unfold At; exact ⟨h.1, h.2.1⟩
  | .tup _, v, fp, h => by unfold AtF at h; exact h.elim
  | .dic, v, fp, h => by unfold AtF at h; exact h.elim
theorem AtFs.at {K : PySem.W.Frag} {H : Hp} : ∀ (ds : List Dt) (vs : List V) (fp : List Addr), AtFs H vs ds fp → Ats K H vs ds
  | [], vs, fp, h => by unfold AtFs at h; unfold Ats; exact h.1
  | d :: ds, vs, fp, h => by
    unfold AtFs at h
    obtain ⟨v, us, f, fs, rfl, h1, h2, rfl⟩ := h
    unfold Ats
    exact ⟨v, us, rfl, AtF.at d v f h1, AtFs.at ds us fs h2⟩
end
theorem AtFs.snoc {H : Hp} {v : V} {d : Dt} {f : List Addr} (hv : AtF H v d f) : ∀ {ds : List Dt} {vs : List V} {fs : List Addr}, AtFs H vs ds fs → AtFs H (vs ++ [v]) (ds ++ [d]) (fs ++ f)
  | [], vs, fs, h => by
    unfold AtFs at h
    obtain ⟨rfl, rfl⟩ := h
    show AtFs H [v] [d] f
    unfold AtFs
    exact ⟨v, [], f, [], rfl, hv, by unfold AtFs; exact ⟨rfl, rfl⟩, (List.append_nil f).symm⟩
  | c :: ds, vs, fs, h => by
    unfold AtFs at h
    obtain ⟨u, us, g, gs, rfl, h1, h2, rfl⟩ := h
    show AtFs H (u :: (us ++ [v])) (c :: (ds ++ [d])) _
    unfold AtFs
    exact ⟨u, us ++ [v], g, gs ++ f, rfl, h1, AtFs.snoc hv h2, List.append_assoc ..⟩
theorem Ats.snoc {K : PySem.W.Frag} {H : Hp} {v : V} {d : Dt} (hv : At K H v d) : ∀ {ds : List Dt} {vs : List V}, Ats K H vs ds → Ats K H (vs ++ [v]) (ds ++ [d])
  | [], vs, h => by
    unfold Ats at h
    subst h
    show Ats K H [v] [d]
    unfold Ats
    exact ⟨v, [], rfl, hv, by unfold Ats; rfl⟩
  | c :: ds, vs, h => by
    unfold Ats at h
    obtain ⟨u, us, rfl, h1, h2⟩ := h
    show Ats K H (u :: (us ++ [v])) (c :: (ds ++ [d]))
    unfold Ats
    exact ⟨u, us ++ [v], rfl, h1, Ats.snoc hv h2⟩

/-! ## isinstance of handed things -/
theorem At.tyx {K : PySem.W.Frag} {H : Hp} {v : V} {d : Dt} (h : At K H v d) : TyX K H v (.type d.ty) := by
  cases d with
  | non => unfold At at h; subst h; exact .base .non
  | bl b => unfold At at h; subst h; exact .base (.bl b)
  | int i => unfold At at h; subst h; exact .base (.int i)
  | str w => unfold At at h; obtain ⟨rfl, _⟩ := h; exact .base (.str _)
  | lst ds =>
    unfold At at h
    obtain ⟨a, xs, rfl, h1, _⟩ := h
    rcases h1 with (h1 | ⟨o, h1⟩) | ⟨o, its, n, h1, h2, _⟩
    · exact .base (.lst h1)
    · exact .base (.frz h1)
    · exact .kList h1 h2
  | tup ds =>
    unfold At at h
    obtain ⟨a, xs, rfl, h1, _⟩ := h
    rcases h1 with (h1 | ⟨o, h1⟩) | ⟨o, its, n, h1, h2, _⟩
    · exact .base (.tup h1)
    · exact .fTuple h1
    · exact .kTuple h1 h2
  | dic => unfold At at h; obtain ⟨a, rfl, h1⟩ := h; exact .base (.dK h1)
theorem kit_known : ∀ y ∈ knownTy, ∀ n ∈ ["list", "tuple", "bool", "str", "int"], kitB y n = some (decide (y = n) || (decide (y = "bool") && decide (n = "int"))) := by decide +kernel
theorem isi_ty {K : PySem.W.Frag} {H : Hp} {v : V} {d : Dt} {n : String} {Q : VK} (h : At K H v d) (hn : n ∈ ["list", "tuple", "bool", "str", "int"]) (q : Q (.bl (decide (d.ty = n) || (decide (d.ty = "bool") && decide (n = "int")))) H) : rIsi K [v, .ty n] H Q :=
  ⟨v, .ty n, .type d.ty, .type n, _, rfl, .ty n, h.tyx, kit_ty (kit_known _ (ty_known d) n hn), q⟩
theorem isRow_ty (d : Dt) : isRow d = (decide (d.ty = "list") || decide (d.ty = "tuple")) := by cases d <;> simp [isRow, Dt.ty]
theorem isi_row {K : PySem.W.Frag} {H : Hp} {v : V} {d : Dt} {t : Addr} {Q : VK} (h : At K H v d) (ht : H t = some (.tup [.ty "list", .ty "tuple"])) (q : Q (.bl (isRow d)) H) : rIsiT K [v, .ref t] H Q := by
  refine ⟨v, t, _, .type d.ty, _, _, rfl, ht, .cons (.ty "list") (.cons (.ty "tuple") .nil), h.tyx, ?_, q⟩
  rw [isRow_ty]
  refine kitAny_cons (kit_ty (kit_known _ (ty_known d) "list" (by decide))) (fun e => ?_) (fun e => ?_)
  · have e1 : decide (d.ty = "list") = false := by
      cases h : decide (d.ty = "list") with
      | false => rfl
      | true => rw [h] at e; cases e
    rw [e1, Bool.false_or]
    refine kitAny_cons (kit_ty (kit_known _ (ty_known d) "tuple" (by decide))) (fun e2 => ?_) (fun e2 => ?_)
    · have e3 : decide (d.ty = "tuple") = false := by
        cases h : decide (d.ty = "tuple") with
        | false => rfl
        | true => rw [h] at e2; cases e2
      rw [e3]
      rfl
    · rw [show (decide ("tuple" = "int")) = false from by decide, Bool.and_false, Bool.or_false] at e2
      exact e2
  · rw [show (decide ("list" = "int")) = false from by decide, Bool.and_false, Bool.or_false] at e
    rw [e]
    rfl

/-! ## rooms apart -/
mutual
theorem AtF.trk {H : Hp} : ∀ (d : Dt) (v : V) (fp : List Addr), AtF H v d fp → ∀ b ∈ fp, ∃ o, H b = some o
  | .lst ds, v, fp, h => by
    unfold AtF at h
    obtain ⟨a, xs, fs, rfl, h1, h2, rfl⟩ := h
    intro b hb
    rcases List.mem_cons.mp hb with rfl | hb
    · exact ⟨_, h1⟩
    · exact AtFs.trk ds xs fs h2 b hb
  | .non, v, fp, h => by unfold AtF at h; obtain ⟨_, rfl⟩ := h; exact fun b hb => (List.not_mem_nil hb).elim
  | .bl b, v, fp, h => by unfold AtF at h; obtain ⟨_, rfl⟩ := h; exact fun b hb => (List.not_mem_nil hb).elim
  | .int i, v, fp, h => by unfold AtF at h; obtain ⟨_, rfl⟩ := h; exact fun b hb => (List.not_mem_nil hb).elim
  | .str w, v, fp, h => by unfold AtF at h; obtain ⟨_, _, rfl⟩ := h; exact fun b hb => (List.not_mem_nil hb).elim
  | .tup _, v, fp, h => by unfold AtF at h; exact h.elim
  | .dic, v, fp, h => by unfold AtF at h; exact h.elim
theorem AtFs.trk {H : Hp} : ∀ (ds : List Dt) (vs : List V) (fp : List Addr), AtFs H vs ds fp → ∀ b ∈ fp, ∃ o, H b = some o
  | [], vs, fp, h => by unfold AtFs at h; obtain ⟨_, rfl⟩ := h; exact fun b hb => (List.not_mem_nil hb).elim
  | d :: ds, vs, fp, h => by
    unfold AtFs at h
    obtain ⟨v, us, f, fs, rfl, h1, h2, rfl⟩ := h
    intro b hb
    rcases List.mem_append.mp hb with hb | hb
    · exact AtF.trk d v f h1 b hb
    · exact AtFs.trk ds us fs h2 b hb
end
/-- the heap without one thing -/
def hid (p : Addr) (H : Hp) : Hp := fun b => if b = p then none else H b
theorem hid_ne {p b : Addr} {H : Hp} (h : b ≠ p) : hid p H b = H b := if_neg h
theorem hid_at {p b : Addr} {H : Hp} {o : HO} (h : hid p H b = some o) : b ≠ p ∧ H b = some o := by
  by_cases e : b = p
  · rw [show hid p H b = none from if_pos e] at h
    cases h
  · exact ⟨e, (if_neg e).symm.trans h⟩
theorem hid_same (p : Addr) (H : Hp) : Same (hid p H) H := fun _ _ h => (hid_at h).2
theorem hid_mono {p : Addr} {H H' : Hp} (e : Same H H') : Same (hid p H) (hid p H') := fun b o h => by
  obtain ⟨h1, h2⟩ := hid_at h
  rw [hid_ne h1]
  exact e b o h2
theorem hid_upd {p t : Addr} {H : Hp} {o : HO} (h : t ≠ p) : hid p (upd H t o) = upd (hid p H) t o := by
  funext b
  by_cases e : b = p
  · subst e
    rw [upd_ne (fun z => h z.symm)]
    show (if b = b then none else _) = (if b = b then none else _)
    rw [if_pos rfl, if_pos rfl]
  · rw [hid_ne e]
    by_cases e2 : b = t
    · subst e2
      rw [upd_same, upd_same]
    · rw [upd_ne e2, upd_ne e2, hid_ne e]
theorem take_norm {ds : List Dt} {i : Nat} {d : Dt} (h : ds[i]? = some d) : (ds.map norm).take (i + 1) = (ds.map norm).take i ++ [norm d] := by
  rw [List.take_add_one, List.getElem?_map, h]
  rfl
theorem mem_deep {d e : Dt} (h : e ∈ d.items) : deep e + 1 ≤ deep d := by
  have key : ∀ ds : List Dt, e ∈ ds → deep e ≤ deepAll ds := by
    intro ds
    induction ds with
    | nil => intro h; cases h
    | cons c ds ih =>
      intro h
      simp only [deepAll]
      rcases List.mem_cons.mp h with rfl | h
      · omega
      · have := ih h
        omega
  cases d with
  | lst ds => have := key ds h; simp only [deep]; omega
  | tup ds => have := key ds h; simp only [deep]; omega
  | _ => cases h
theorem mem_bulk {d e : Dt} (h : e ∈ d.items) : bulk e + 1 ≤ bulk d := by
  have key : ∀ ds : List Dt, e ∈ ds → bulk e + 1 ≤ bulkAll ds := by
    intro ds
    induction ds with
    | nil => intro h; cases h
    | cons c ds ih =>
      intro h
      simp only [bulkAll]
      rcases List.mem_cons.mp h with rfl | h
      · omega
      · have := ih h
        omega
  cases d with
  | lst ds => have := key ds h; simp only [bulk]; omega
  | tup ds => have := key ds h; simp only [bulk]; omega
  | _ => cases h
theorem len_bulk (d : Dt) : d.items.length ≤ bulk d := by
  have key : ∀ ds : List Dt, ds.length ≤ bulkAll ds := by
    intro ds
    induction ds with
    | nil => exact Nat.zero_le _
    | cons c ds ih => simp only [bulkAll, List.length_cons]; omega
  cases d with
  | lst ds => exact key ds
  | tup ds => exact key ds
  | _ => exact Nat.zero_le _
theorem fitsAll_mem : ∀ {ds : List Dt}, FitsAll ds → ∀ {e}, e ∈ ds → Fits e
  | [], _, e, h => by cases h
  | d :: ds, f, e, h => by
    unfold FitsAll at f
    rcases List.mem_cons.mp h with rfl | h
    · exact f.1
    · exact fitsAll_mem f.2 h
theorem mem_fits {d e : Dt} (f : Fits d) (h : e ∈ d.items) : Fits e := by
  cases d with
  | lst ds => unfold Fits at f; exact fitsAll_mem f h
  | tup ds => unfold Fits at f; exact fitsAll_mem f h
  | _ => cases h
theorem leaf_AtF {K : PySem.W.Frag} {H : Hp} {v : V} {d : Dt} (h : At K H v d) (f : Fits d) (hr : isRow d = false) : AtF H v (norm d) [] := by
  cases d with
  | lst ds => cases hr
  | tup ds => cases hr
  | non => unfold At at h; simp only [norm]; unfold AtF; exact ⟨h, rfl⟩
  | bl b => unfold At at h; simp only [norm]; unfold AtF; exact ⟨h, rfl⟩
  | int i => unfold At at h; simp only [norm]; unfold AtF; exact ⟨h, rfl⟩
  | str w => unfold At at h; simp only [norm]; unfold AtF; exact ⟨h.1, h.2, rfl⟩
  | dic => unfold Fits at f; exact f.elim
/-- a comprehension over a row, whatever its items come to; the row stands in G, which stays -/
theorem lc_rowP {K : PySem.W.Frag} {a : Addr} {xs : List V} {tt : TT} {te : TE} {vs : List Nat} {σ : L2.St} {G H : Hp} {Q : VK} {j k : Nat} (hv : σ[j]? = some (some (.ref a))) (hr : Row K G a xs) (hG : Same G H)
    (hw : ∀ x, wipe ((wipe σ vs).set k (some x)) vs = wipe σ vs) (ht : ∀ σ H (R : Bool → Hp → Prop), R true H → tt σ H R)
    (Pv : Addr → Nat → List V → Hp → Prop) (h0 : ∀ D, H D = none → Pv D 0 [] (upd H D (.lst []))) (hk : ∀ D i ys H', Pv D i ys H' → Same G H')
    (hs : ∀ D (i : Nat) (x : V) (ys : List V) (H' : Hp), H D = none → xs[i]? = some x → Pv D i ys H' → te ((wipe σ vs).set k (some x)) H' fun y H4 => ∃ acc, H4 D = some (.lst acc) ∧ acc.length < sizeLine ∧ ∃ ys, Pv D (i + 1) ys (upd H4 D (.lst (acc ++ [y]))))
    (hd : ∀ D ys H', H D = none → Pv D xs.length ys H' → Q (.ref D) H') : tLc (iSeq K (tVar j)) (gName k) tt te vs σ H Q := by
  have st : ∀ D i x H', H D = none → xs[i]? = some x → (∃ ys, Pv D i ys H') → gName k x (wipe σ vs) H' fun σ2 H2 => wipe σ2 vs = wipe σ vs ∧ tt σ2 H2 fun b H3 =>
      if b = true then te σ2 H3 fun y H4 => ∃ acc, H4 D = some (.lst acc) ∧ acc.length < sizeLine ∧ (∃ ys, Pv D (i + 1) ys (upd H4 D (.lst (acc ++ [y])))) else (∃ ys, Pv D (i + 1) ys H3) := by
    intro D i x H' nD hx ⟨ys, hP⟩
    refine ⟨hw x, ht _ _ _ ?_⟩
    rw [if_pos rfl]
    exact hs D i x ys H' nD hx hP
  rcases hr with hr | hr
  · exact .inl ⟨_, hv, a, rfl, ⟨_, hG.seq hr⟩, fun D nD => L2.lc_list (K := K) (a := a) (xs := xs) (fun i H' => ∃ ys, Pv D i ys H') ⟨[], h0 D nD⟩ (fun i H' _ ⟨ys, p⟩ => (hk D i ys H' p).seq hr) (fun i x H' hx p => st D i x H' nD hx p) (fun H' ⟨ys, p⟩ => hd D ys H' nD p)⟩
  · exact .inr ⟨_, hv, a, rfl, ⟨_, sameT hG hr⟩, fun D nD => L2.lc_tup (K := K) (a := a) (xs := xs) (fun i H' => ∃ ys, Pv D i ys H') ⟨[], h0 D nD⟩ (fun i H' _ ⟨ys, p⟩ => sameT (hk D i ys H' p) hr) (fun i x H' hx p => st D i x H' nD hx p) (fun H' ⟨ys, p⟩ => hd D ys H' nD p)⟩
/-- the same with any target -/
theorem lc_rowX {K : PySem.W.Frag} {a : Addr} {xs : List V} {tg : TG} {tt : TT} {te : TE} {vs : List Nat} {σ : L2.St} {G H : Hp} {Q : VK} {j : Nat} (hv : σ[j]? = some (some (.ref a))) (hr : Row K G a xs) (hG : Same G H)
    (Pv : Addr → Nat → Hp → Prop) (h0 : ∀ D, H D = none → Pv D 0 (upd H D (.lst []))) (hk : ∀ D i H', Pv D i H' → Same G H')
    (hs : ∀ D (i : Nat) (x : V) (H' : Hp), H D = none → xs[i]? = some x → Pv D i H' → tg x (wipe σ vs) H' fun σ2 H2 => wipe σ2 vs = wipe σ vs ∧ tt σ2 H2 fun b H3 =>
      if b = true then te σ2 H3 fun y H4 => ∃ acc, H4 D = some (.lst acc) ∧ acc.length < sizeLine ∧ Pv D (i + 1) (upd H4 D (.lst (acc ++ [y]))) else Pv D (i + 1) H3)
    (hd : ∀ D H', H D = none → Pv D xs.length H' → Q (.ref D) H') : tLc (iSeq K (tVar j)) tg tt te vs σ H Q := by
  rcases hr with hr | hr
  · exact .inl ⟨_, hv, a, rfl, ⟨_, hG.seq hr⟩, fun D nD => L2.lc_list (K := K) (a := a) (xs := xs) (fun i H' => Pv D i H') (h0 D nD) (fun i H' _ p => (hk D i H' p).seq hr) (fun i x H' hx p => hs D i x H' nD hx p) (fun H' p => hd D H' nD p)⟩
  · exact .inr ⟨_, hv, a, rfl, ⟨_, sameT hG hr⟩, fun D nD => L2.lc_tup (K := K) (a := a) (xs := xs) (fun i H' => Pv D i H') (h0 D nD) (fun i H' _ p => sameT (hk D i H' p) hr) (fun i x H' hx p => hs D i x H' nD hx p) (fun H' p => hd D H' nD p)⟩
theorem hid_none {p b : Addr} {H : Hp} (h : H b = none) : hid p H b = none := by
  by_cases e : b = p
  · exact if_pos e
  · rw [hid_ne e]
    exact h
theorem hid_hid {D : Addr} {H : Hp} {o : HO} : hid D (upd H D o) = hid D H := by
  funext b
  by_cases e : b = D
  · subst e
    show (if b = b then none else _) = (if b = b then none else _)
    rw [if_pos rfl, if_pos rfl]
  · rw [hid_ne e, hid_ne e, upd_ne e]
end BK

namespace BK
open PySem PySem.Spec PyProof.Rows L2
/-! ## [u, v][::k], k 1 or -1 -/
def tStp (K : PySem.W.Frag) (te tk : TE) : TE := fun σ H Q => te σ H fun x H1 => tPart tk σ H1 fun o H2 => ∃ (a : Addr) (u v : V) (k : Int), x = .ref a ∧ o = some k ∧ SqL K H2 a [u, v] ∧ (k = 1 ∨ k = -1) ∧ ∀ p, H2 p = none → Q (.ref p) (upd H2 p (.lst (if k = 1 then [u, v] else [v, u])))
theorem pick_two (a b : Value) : slicePick #[a, b] none none (some 1) = #[a, b] := by
  unfold slicePick
  show ((sliceRange 0 2 1).filterMap (#[a, b][·]?)).toArray = _
  rw [show sliceRange (0 : Int) 2 1 = [0, 1] from by decide]
  rfl
theorem pick_two' (a b : Value) : slicePick #[a, b] none none (some (-1)) = #[b, a] := by
  rw [PySem.W.krv_pick]
  rfl
theorem pe_stp {X : Cx} {e st : Expr} {te tk : TE} {p3 pos : Pos} (he : PE X e te) (hk : PE X st tk) (ht : ∀ v u : Value, subscripted (.Slice none none (some st) p3) false v u = operate [v, u] (getItem v u)) : PE X (.Subscript e (.Slice none none (some st) p3) pos) (tStp X.K te tk) := by
  refine ⟨fun pins s σ H Q I h => Subscript_ (thn (he.run pins s σ H _ I h) fun w s1 ⟨x, H1, J1, r1, q1⟩ => ?_)⟩
  have nn : ∀ {s' : Shared} {G : Hp}, L2.Inv X pins σ G s' → ∀ {R : Value → Shared → Prop}, (∀ pv s2, IsPart pv none → L2.Inv X pins σ G s2 → R pv s2) → wpAny (model X.prog X.w) X.A (evalPart none X.env) R X.xe s' := fun {s' G} J {R} k =>
    thn (po_none.run pins s' σ G (fun o G2 => o = none ∧ G2 = G) J ⟨rfl, rfl⟩) fun pv s2 ⟨l, G2, J2, pl, el, e2⟩ => by
      subst el e2
      exact k pv s2 pl J2
  refine wpAny_Slice (nn J1 fun vl s2 pl J2 => nn J2 fun vu s3 pu J3 => ?_)
  refine thn ((po_some hk).run pins s3 σ H1 _ J3 q1) fun vk s4 ⟨o, H2, J4, pk, a, u, v, k, ex, ek, hsq, hkk, q⟩ => ?_
  subst ex ek
  cases (show w = Value.ref a from r1)
  have J5 : L2.Inv X pins σ H2 { s4 with heap := s4.heap.push { cls := .type "slice", data := .fields #[vl, vu, vk] } } := J4.kept (t' := s4.toks) (fun _ _ z => Heap.get?_push_of_some _ z)
  obtain ⟨its, rv, pl2, hz⟩ := J5.list hsq
  obtain ⟨a1, a2, rfl, v1, v2⟩ := vals2 rv
  refine tail_any (ops := [Value.ref a, Value.ref s4.heap.objs.size]) pl2.isList.typeIs PySem.slot_list_getitem.lookup ?_ (ht _ _)
  refine wpAny_getItem_list_slice pl2.isList (Heap.IsSliceOf.new _ vl vu vk) pl pu pk (by rcases hkk with rfl | rfl <;> decide) ?_ (by show 2 ≤ sizeLine; decide)
  have fin : ∀ (ys : List V) (us : List Value), ys.length = 2 → Vals ys us → (∀ p, H2 p = none → Q (.ref p) (upd H2 p (.lst ys))) → EP X pins σ Q (.ref (s4.heap.push { cls := .type "slice", data := .fields #[vl, vu, vk] }).objs.size) { s4 with heap := (s4.heap.push { cls := .type "slice", data := .fields #[vl, vu, vk] }).push { cls := .type "list", data := .seq us.toArray } } := fun ys us hl r k =>
    ⟨.ref _, _, J5.laid (t' := s4.toks) (o := .lst ys) (fun _ _ z => Heap.get?_push_of_some _ z) (Nat.le_refl _) ⟨by rw [hl]; decide, us, 0, r, Heap.get?_push_size _ rfl⟩, rfl, k _ (J5.hok.fresh (Nat.le_refl _))⟩
  rcases hkk with rfl | rfl
  · rw [show [a1, a2].toArray = #[a1, a2] from rfl, pick_two]
    exact fin [u, v] [a1, a2] rfl (.cons v1 (.cons v2 .nil)) q
  · rw [show [a1, a2].toArray = #[a1, a2] from rfl, pick_two']
    exact fin [v, u] [a2, a1] rfl (.cons v2 (.cons v1 .nil)) q
end BK

namespace BK
open PySem PySem.Spec PyProof.Rows L2
section
variable {K : PySem.W.Frag} {X : Cx}
theorem sl_listK (hK : X.K = K := by rfl) : SlR X (rSlL K) := hK ▸ sl_list
def rTupOf (K : PySem.W.Frag) : List V → Hp → VK → Prop := fun xs H Q => ∃ p ys, xs = [.ref p] ∧ ((SqL K H p ys ∧ ∀ l, H l = none → Q (.ref l) (upd H l (.tup ys))) ∨ (SqT K H p ys ∧ Q (.ref p) H))
theorem call_tuple_ofK (hK : X.K = K := by rfl) : CallR X (.type "tuple") (rTupOf K) := by
  subst hK
  exact call_tuple_of
theorem op_notIn_seqK (hK : X.K = K := by rfl) : OpR X (compareOp CmpOp.NotIn) (rIn K true) := hK ▸ op_notIn_seq
def rListS : List V → Hp → VK → Prop := fun xs H Q => ∃ x : Str, xs = [.str x] ∧ x.cps.size ≤ sizeLine ∧ ∀ p, H p = none → Q (.ref p) (upd H p (.lst (x.cps.toList.map fun c => V.str (tx [c]))))
def rListOf (K : PySem.W.Frag) : List V → Hp → VK → Prop := fun xs H Q => ∃ p ys, xs = [.ref p] ∧ (SqL K H p ys ∨ SqT K H p ys) ∧ ∀ l, H l = none → Q (.ref l) (upd H l (.lst ys))
theorem call_or {f : Value} {r1 r2 : List V → Hp → VK → Prop} (h1 : CallR X f r1) (h2 : CallR X f r2) : CallR X f (fun xs H Q => r1 xs H Q ∨ r2 xs H Q) := by
  intro pins s σ H xs us Q I r h
  rcases h with h | h
  · exact h1 pins s σ H xs us Q I r h
  · exact h2 pins s σ H xs us Q I r h
theorem call_list_any (hc : X.calm = true) (hK : X.K = K := by rfl) : CallR X (.type "list") (fun xs H Q => rListS xs H Q ∨ rListOf K xs H Q) := by
  subst hK
  exact call_or (call_listS hc) call_list_of
end
end BK

namespace BK
open PySem PySem.Spec PyProof.Rows L2
def topS (i : Nat) : Stmt := PySem.Challenge.pw_blindkeys_k14_whole_far_letters_lie_as_t.main.body.getD i (.Pass ⟨0, 0, 0, 0⟩)
abbrev s_is_row : Stmt := topS 7
abbrev N_is_row : List Str := ["thing"]
theorem sc_is_row : FnScope N_is_row ["thing"] (defScope s_is_row) := ⟨rfl, rfl, rfl, by decide +kernel, rfl, by decide +kernel, by decide +kernel⟩
abbrev s_is_whole : Stmt := topS 8
abbrev N_is_whole : List Str := ["thing", "low"]
theorem sc_is_whole : FnScope N_is_whole ["thing", "low"] (defScope s_is_whole) := ⟨rfl, rfl, rfl, by decide +kernel, rfl, by decide +kernel, by decide +kernel⟩
abbrev s_is_within : Stmt := topS 9
abbrev N_is_within : List Str := ["thing", "low", "high"]
theorem sc_is_within : FnScope N_is_within ["thing", "low", "high"] (defScope s_is_within) := ⟨rfl, rfl, rfl, by decide +kernel, rfl, by decide +kernel, by decide +kernel⟩
abbrev s_is_plain : Stmt := topS 10
abbrev N_is_plain : List Str := ["thing"]
theorem sc_is_plain : FnScope N_is_plain ["thing"] (defScope s_is_plain) := ⟨rfl, rfl, rfl, by decide +kernel, rfl, by decide +kernel, by decide +kernel⟩
abbrev s_is_clip : Stmt := topS 11
abbrev N_is_clip : List Str := ["thing"]
theorem sc_is_clip : FnScope N_is_clip ["thing"] (defScope s_is_clip) := ⟨rfl, rfl, rfl, by decide +kernel, rfl, by decide +kernel, by decide +kernel⟩
abbrev s_is_word : Stmt := topS 12
abbrev N_is_word : List Str := ["thing"]
theorem sc_is_word : FnScope N_is_word ["thing"] (defScope s_is_word) := ⟨rfl, rfl, rfl, by decide +kernel, rfl, by decide +kernel, by decide +kernel⟩
abbrev s_is_key : Stmt := topS 17
abbrev N_is_key : List Str := ["thing"]
theorem sc_is_key : FnScope N_is_key ["thing"] (defScope s_is_key) := ⟨rfl, rfl, rfl, by decide +kernel, rfl, by decide +kernel, by decide +kernel⟩
abbrev s_key_weight : Stmt := topS 18
abbrev N_key_weight : List Str := ["key"]
theorem sc_key_weight : FnScope N_key_weight ["key"] (defScope s_key_weight) := ⟨rfl, rfl, rfl, by decide +kernel, rfl, by decide +kernel, by decide +kernel⟩
abbrev s_weigh : Stmt := topS 19
abbrev N_weigh : List Str := ["keys", "key"]
theorem sc_weigh : FnScope N_weigh ["keys"] (defScope s_weigh) := ⟨rfl, rfl, rfl, by decide +kernel, rfl, by decide +kernel, by decide +kernel⟩
abbrev s_is_hand : Stmt := topS 20
abbrev N_is_hand : List Str := ["thing", "key"]
theorem sc_is_hand : FnScope N_is_hand ["thing"] (defScope s_is_hand) := ⟨rfl, rfl, rfl, by decide +kernel, rfl, by decide +kernel, by decide +kernel⟩
abbrev s_check_hand : Stmt := topS 21
abbrev N_check_hand : List Str := ["thing"]
theorem sc_check_hand : FnScope N_check_hand ["thing"] (defScope s_check_hand) := ⟨rfl, rfl, rfl, by decide +kernel, rfl, by decide +kernel, by decide +kernel⟩
abbrev s_nearest : Stmt := topS 22
abbrev N_nearest : List Str := ["side", "many", "near"]
theorem sc_nearest : FnScope N_nearest ["side", "many"] (defScope s_nearest) := ⟨rfl, rfl, rfl, by decide +kernel, rfl, by decide +kernel, by decide +kernel⟩
abbrev s_take : Stmt := topS 23
abbrev N_take : List Str := ["side", "many", "near"]
theorem sc_take : FnScope N_take ["side", "many"] (defScope s_take) := ⟨rfl, rfl, rfl, by decide +kernel, rfl, by decide +kernel, by decide +kernel⟩
abbrev s_do_key : Stmt := topS 24
abbrev N_do_key : List Str := ["key", "left", "right", "held", "kind"]
theorem sc_do_key : FnScope N_do_key ["key", "left", "right", "held"] (defScope s_do_key) := ⟨rfl, rfl, rfl, by decide +kernel, rfl, by decide +kernel, by decide +kernel⟩
abbrev s_go : Stmt := topS 25
abbrev N_go : List Str := ["key", "lengths", "left", "right", "held", "kind", "many"]
theorem sc_go : FnScope N_go ["key", "lengths"] (defScope s_go) := ⟨rfl, rfl, rfl, by decide +kernel, rfl, by decide +kernel, by decide +kernel⟩
abbrev s_needed : Stmt := topS 26
abbrev N_needed : List Str := ["hand", "side", "lengths", "least", "key"]
theorem sc_needed : FnScope N_needed ["hand", "side", "lengths"] (defScope s_needed) := ⟨rfl, rfl, rfl, by decide +kernel, rfl, by decide +kernel, by decide +kernel⟩
abbrev s_reach : Stmt := topS 27
abbrev N_reach : List Str := ["hand", "side"]
theorem sc_reach : FnScope N_reach ["hand", "side"] (defScope s_reach) := ⟨rfl, rfl, rfl, by decide +kernel, rfl, by decide +kernel, by decide +kernel⟩
abbrev s_reaches : Stmt := topS 28
abbrev N_reaches : List Str := ["hand"]
theorem sc_reaches : FnScope N_reaches ["hand"] (defScope s_reaches) := ⟨rfl, rfl, rfl, by decide +kernel, rfl, by decide +kernel, by decide +kernel⟩
abbrev s_is_lengths : Stmt := topS 31
abbrev N_is_lengths : List Str := ["thing"]
theorem sc_is_lengths : FnScope N_is_lengths ["thing"] (defScope s_is_lengths) := ⟨rfl, rfl, rfl, by decide +kernel, rfl, by decide +kernel, by decide +kernel⟩
abbrev s_check_lengths : Stmt := topS 32
abbrev N_check_lengths : List Str := ["thing"]
theorem sc_check_lengths : FnScope N_check_lengths ["thing"] (defScope s_check_lengths) := ⟨rfl, rfl, rfl, by decide +kernel, rfl, by decide +kernel, by decide +kernel⟩
abbrev s_check_near : Stmt := topS 33
abbrev N_check_near : List Str := ["thing"]
theorem sc_check_near : FnScope N_check_near ["thing"] (defScope s_check_near) := ⟨rfl, rfl, rfl, by decide +kernel, rfl, by decide +kernel, by decide +kernel⟩
abbrev s_row_of : Stmt := topS 34
abbrev N_row_of : List Str := ["side", "many", "deep"]
theorem sc_row_of : FnScope N_row_of ["side", "many"] (defScope s_row_of) := ⟨rfl, rfl, rfl, by decide +kernel, rfl, by decide +kernel, by decide +kernel⟩
abbrev s_sourced : Stmt := topS 35
abbrev N_sourced : List Str := ["hand", "keys", "number", "key", "at"]
theorem sc_sourced : FnScope N_sourced ["hand"] (defScope s_sourced) := ⟨rfl, rfl, rfl, by decide +kernel, rfl, by decide +kernel, by decide +kernel⟩
abbrev s_trace : Stmt := topS 36
abbrev N_trace : List Str := ["keys", "lengths", "left", "right", "held", "key"]
theorem sc_trace : FnScope N_trace ["keys", "lengths"] (defScope s_trace) := ⟨rfl, rfl, rfl, by decide +kernel, rfl, by decide +kernel, by decide +kernel⟩
abbrev s_table : Stmt := topS 37
abbrev N_table : List Str := ["hand", "lengths"]
theorem sc_table : FnScope N_table ["hand", "lengths"] (defScope s_table) := ⟨rfl, rfl, rfl, by decide +kernel, rfl, by decide +kernel, by decide +kernel⟩
abbrev s__law_reel : Stmt := topS 39
abbrev N__law_reel : List Str := ["script", "stir", "cell", "great"]
theorem sc__law_reel : FnScope N__law_reel ["script"] (defScope s__law_reel) := ⟨rfl, rfl, rfl, by decide +kernel, rfl, by decide +kernel, by decide +kernel⟩
abbrev s__law_draw : Stmt := topS 40
abbrev N__law_draw : List Str := ["reel", "many", "rest", "told", "stir"]
theorem sc__law_draw : FnScope N__law_draw ["reel", "many"] (defScope s__law_draw) := ⟨rfl, rfl, rfl, by decide +kernel, rfl, by decide +kernel, by decide +kernel⟩
abbrev s__law_word : Stmt := topS 41
abbrev N__law_word : List Str := ["reel", "many", "k"]
theorem sc__law_word : FnScope N__law_word ["reel", "many"] (defScope s__law_word) := ⟨rfl, rfl, rfl, by decide +kernel, rfl, by decide +kernel, by decide +kernel⟩
abbrev s__law_any_hand : Stmt := topS 42
abbrev N__law_any_hand : List Str := ["reel", "most", "found", "long", "turn", "many", "kinds", "kind"]
theorem sc__law_any_hand : FnScope N__law_any_hand ["reel", "most"] (defScope s__law_any_hand) := ⟨rfl, rfl, rfl, by decide +kernel, rfl, by decide +kernel, by decide +kernel⟩
abbrev s__law_ring_hand : Stmt := topS 43
abbrev N__law_ring_hand : List Str := ["reel", "found", "back", "turn", "size"]
theorem sc__law_ring_hand : FnScope N__law_ring_hand ["reel"] (defScope s__law_ring_hand) := ⟨rfl, rfl, rfl, by decide +kernel, rfl, by decide +kernel, by decide +kernel⟩
abbrev s__law_hand : Stmt := topS 44
abbrev N__law_hand : List Str := ["reel", "most", "hand"]
theorem sc__law_hand : FnScope N__law_hand ["reel", "most"] (defScope s__law_hand) := ⟨rfl, rfl, rfl, by decide +kernel, rfl, by decide +kernel, by decide +kernel⟩
abbrev s__law_weight : Stmt := topS 45
abbrev N__law_weight : List Str := ["hand", "key"]
theorem sc__law_weight : FnScope N__law_weight ["hand"] (defScope s__law_weight) := ⟨rfl, rfl, rfl, by decide +kernel, rfl, by decide +kernel, by decide +kernel⟩
abbrev s_law : Stmt := topS 46
abbrev N_law : List Str := ["script", "reel", "k", "hand", "left", "right", "turn", "held", "more", "near", "far", "lefts", "rights", "low", "one", "other", "side", "d"]
theorem sc_law : FnScope N_law ["script"] (defScope s_law) := ⟨rfl, rfl, rfl, by decide +kernel, rfl, by decide +kernel, by decide +kernel⟩
structure FnT (K : PySem.W.Frag) (mg : Str → Option Value) (x : Str) (st : Stmt) (ps : List Str) : Type where
  f : Addr
  fd : FuncData
  F : Fun K x x st f fd
  g : mg x = some (.ref f)
  b : Binds K fd ps []
structure Txt (K : PySem.W.Frag) (mg : Str → Option Value) (w : World) : Type where
  f_is_row : FnT K mg "is_row" s_is_row ["thing"]
  f_is_whole : FnT K mg "is_whole" s_is_whole ["thing", "low"]
  f_is_within : FnT K mg "is_within" s_is_within ["thing", "low", "high"]
  f_is_plain : FnT K mg "is_plain" s_is_plain ["thing"]
  f_is_clip : FnT K mg "is_clip" s_is_clip ["thing"]
  f_is_word : FnT K mg "is_word" s_is_word ["thing"]
  f_is_key : FnT K mg "is_key" s_is_key ["thing"]
  f_key_weight : FnT K mg "key_weight" s_key_weight ["key"]
  f_weigh : FnT K mg "weigh" s_weigh ["keys"]
  f_is_hand : FnT K mg "is_hand" s_is_hand ["thing"]
  f_check_hand : FnT K mg "check_hand" s_check_hand ["thing"]
  f_nearest : FnT K mg "nearest" s_nearest ["side", "many"]
  f_take : FnT K mg "take" s_take ["side", "many"]
  f_do_key : FnT K mg "do_key" s_do_key ["key", "left", "right", "held"]
  f_go : FnT K mg "go" s_go ["key", "lengths"]
  f_needed : FnT K mg "needed" s_needed ["hand", "side", "lengths"]
  f_reach : FnT K mg "reach" s_reach ["hand", "side"]
  f_reaches : FnT K mg "reaches" s_reaches ["hand"]
  f_is_lengths : FnT K mg "is_lengths" s_is_lengths ["thing"]
  f_check_lengths : FnT K mg "check_lengths" s_check_lengths ["thing"]
  f_check_near : FnT K mg "check_near" s_check_near ["thing"]
  f_row_of : FnT K mg "row_of" s_row_of ["side", "many"]
  f_sourced : FnT K mg "sourced" s_sourced ["hand"]
  f_trace : FnT K mg "trace" s_trace ["keys", "lengths"]
  f_table : FnT K mg "table" s_table ["hand", "lengths"]
  f__law_reel : FnT K mg "_law_reel" s__law_reel ["script"]
  f__law_draw : FnT K mg "_law_draw" s__law_draw ["reel", "many"]
  f__law_word : FnT K mg "_law_word" s__law_word ["reel", "many"]
  f__law_any_hand : FnT K mg "_law_any_hand" s__law_any_hand ["reel", "most"]
  f__law_ring_hand : FnT K mg "_law_ring_hand" s__law_ring_hand ["reel"]
  f__law_hand : FnT K mg "_law_hand" s__law_hand ["reel", "most"]
  f__law_weight : FnT K mg "_law_weight" s__law_weight ["hand"]
  f_law : FnT K mg "law" s_law ["script"]
  b_all : mg "all" = none
  b_enumerate : mg "enumerate" = none
  b_int : mg "int" = none
  b_len : mg "len" = none
  b_list : mg "list" = none
  b_max : mg "max" = none
  b_min : mg "min" = none
  b_range : mg "range" = none
  b_str : mg "str" = none
  b_sum : mg "sum" = none
  b_tuple : mg "tuple" = none
  b_type : mg "type" = none
  c_ALPHABET : ∃ t, mg "ALPHABET" = some (.str "abcdefghijklmnopqrstuvwxyz" t)
  c_HEAVIEST : ∃ t, mg "HEAVIEST" = some (.int 60 t)
  c_LONGEST_SIDE : ∃ t, mg "LONGEST_SIDE" = some (.int 200 t)
  c_LONGEST_WORD : ∃ t, mg "LONGEST_WORD" = some (.int 60 t)
  c_NUMBERS : IDict K w mg "NUMBERS" [("left", 0), ("right", 1), ("clip", 2)]
  c_SIDES : SDict K w mg "SIDES" [("left", "left"), ("rub", "left"), ("right", "right"), ("strike", "right"), ("copy", "right"), ("cut", "right")]
theorem pe_c_ALPHABET {X : Cx} {pos : Pos} (T : Txt X.K X.mg X.w) (hg : Gl X "ALPHABET" := by rfl) : PE X (.Name "ALPHABET" pos) (tC (.str "abcdefghijklmnopqrstuvwxyz")) := by
  obtain ⟨t, e⟩ := T.c_ALPHABET
  exact pe_glob hg e ⟨_, rfl⟩
theorem pe_c_HEAVIEST {X : Cx} {pos : Pos} (T : Txt X.K X.mg X.w) (hg : Gl X "HEAVIEST" := by rfl) : PE X (.Name "HEAVIEST" pos) (tC (.int 60)) := by
  obtain ⟨t, e⟩ := T.c_HEAVIEST
  exact pe_glob hg e ⟨_, rfl⟩
theorem pe_c_LONGEST_SIDE {X : Cx} {pos : Pos} (T : Txt X.K X.mg X.w) (hg : Gl X "LONGEST_SIDE" := by rfl) : PE X (.Name "LONGEST_SIDE" pos) (tC (.int 200)) := by
  obtain ⟨t, e⟩ := T.c_LONGEST_SIDE
  exact pe_glob hg e ⟨_, rfl⟩
theorem pe_c_LONGEST_WORD {X : Cx} {pos : Pos} (T : Txt X.K X.mg X.w) (hg : Gl X "LONGEST_WORD" := by rfl) : PE X (.Name "LONGEST_WORD" pos) (tC (.int 60)) := by
  obtain ⟨t, e⟩ := T.c_LONGEST_WORD
  exact pe_glob hg e ⟨_, rfl⟩
local macro_rules | `(tactic| walk_at "rd") => `(tactic| try dsimp only [tSeq, tNext, tRet, tRetN, tDrop, tIfS, tAsg, tPar, tAug, tVar, tC, tOp, tUn, tCB, tCons, tNil, tTup, tLst, tCall, tTest, tB, tNot, tAnd, tOr, tAndV, tOrV, tNotV, tIf, tIsN, tNotN, tSl, tPart, tNoPart, tM1, tM0, tBM, tBM0, tChain, gName, gTup, gUnl, gCons, gNil, List.nil_append, List.append_nil, List.cons_append])
section
variable {P : Program} {w : World} {K : PySem.W.Frag} {mg : Str → Option Value} {base : Heap}
/-! ## kinds -/
def spIsRow (K : PySem.W.Frag) : Sp := fun vs H Q _ => ∃ v d, vs = [v] ∧ At K H v d ∧ ∀ H', Same H H' → Q (.bl (isRow d)) H'
theorem ok_is_row (T : Txt K mg w) : FnOk P w K mg base CX0 1 T.f_is_row.f T.f_is_row.fd ["thing"] (spIsRow K) := by
  refine T.f_is_row.F.ok sc_is_row (fun vs H Q E h => ?_) (fun cdv A outer s H vs Q E hr h => ?_)
  · obtain ⟨v, d, rfl, _⟩ := h
    rfl
  obtain ⟨v, d, rfl, hv, q⟩ := h
  refine ⟨_, (pss_one (ps_ret (pe_cmpR op_in_ty (pe_callTy call_type1 (by rfl) T.b_type (by decide +kernel) (pa_cons (pv 0) pa_nil)) (pe_tup (pa_cons (pe_bltn (v := .ty "list") (by rfl) T.b_list (by decide +kernel) rfl) (pa_cons (pe_bltn (v := .ty "tuple") (by rfl) T.b_tuple (by decide +kernel) rfl) pa_nil))) (by rfl)))), ?_⟩
  walk_at "rd"
  refine ⟨v, rfl, v, d.ty, rfl, hv.ty, (by show 2 ≤ sizeLine; decide), fun p hp => ?_⟩
  refine ⟨d.ty, p, ["list", "tuple"], rfl, rfl, SqT.of upd_same, ty_known d, by decide, ?_⟩
  have e : decide (d.ty ∈ ["list", "tuple"]) = isRow d := by cases d <;> simp [Dt.ty, isRow]
  rw [e]
  exact q _ (same_upd hp)

def spIsWhole (K : PySem.W.Frag) : Sp := fun vs H Q _ => ∃ v d lo, vs = [v, .int lo] ∧ At K H v d ∧ Q (.bl (isWhole d lo)) H
theorem ok_is_whole (T : Txt K mg w) : FnOk P w K mg base CX0 1 T.f_is_whole.f T.f_is_whole.fd ["thing", "low"] (spIsWhole K) := by
  refine T.f_is_whole.F.ok sc_is_whole (fun vs H Q E h => ?_) (fun cdv A outer s H vs Q E hr h => ?_)
  · obtain ⟨v, d, lo, rfl, _⟩ := h
    rfl
  obtain ⟨v, d, lo, rfl, hv, q⟩ := h
  refine ⟨_, (pss_one (ps_ret (pe_and (pe_cmpR op_isTyB (pe_callTy call_type1 (by rfl) T.b_type (by decide +kernel) (pa_cons (pv 0) pa_nil)) (pe_bltn (v := .ty "int") (by rfl) T.b_int (by decide +kernel) rfl) (nomark _)) (pe_one (pe_cmpR op_ge (pv 0) (pv 1) (nomark _)))))), ?_⟩
  walk_at "rd"
  refine ⟨v, rfl, v, d.ty, rfl, hv.ty, d.ty, "int", rfl, rfl, _, rfl, ite2 (fun e => ?_) (fun e => ?_)⟩
  · have e2 := of_decide_eq_true e
    cases d with
    | int i =>
      unfold At at hv
      subst hv
      exact ⟨_, rfl, _, rfl, i, lo, rfl, rfl, q⟩
    | _ => exact absurd e2 (by simp [Dt.ty])
  · have e2 : isWhole d lo = false := by
      cases d with
      | int i => exact absurd (decide_eq_true rfl) e
      | _ => rfl
    rw [e2] at q
    exact q

def spIsPlain (K : PySem.W.Frag) : Sp := fun vs H Q _ => ∃ v d, vs = [v] ∧ At K H v d ∧ Q (.bl (isPlain d)) H
theorem ok_is_plain (T : Txt K mg w) : FnOk P w K mg base CX0 1 T.f_is_plain.f T.f_is_plain.fd ["thing"] (spIsPlain K) := by
  refine T.f_is_plain.F.ok sc_is_plain (fun vs H Q E h => ?_) (fun cdv A outer s H vs Q E hr h => ?_)
  · obtain ⟨v, d, rfl, _⟩ := h
    rfl
  obtain ⟨v, d, rfl, hv, q⟩ := h
  refine ⟨_, (pss_one (ps_ret (pe_and (pe_cmpR op_isTyB (pe_callTy call_type1 (by rfl) T.b_type (by decide +kernel) (pa_cons (pv 0) pa_nil)) (pe_bltn (v := .ty "str") (by rfl) T.b_str (by decide +kernel) rfl) (nomark _)) (pe_one (pe_cmpR op_eq (pe_m1 PySem.F.slot_str_strip PySem.F.type_str_strip mt_stripChars (pv 0) (pe_c_ALPHABET T)) pe_str (nomark _)))))), ?_⟩
  walk_at "rd"
  refine ⟨v, rfl, v, d.ty, rfl, hv.ty, d.ty, "str", rfl, rfl, _, rfl, ite2 (fun e => ?_) (fun e => ?_)⟩
  · have e2 := of_decide_eq_true e
    cases d with
    | str x =>
      unfold At at hv
      obtain ⟨rfl, hl⟩ := hv
      refine ⟨_, rfl, ⟨_, rfl⟩, _, _, rfl, rfl, (by rw [tx_len]; exact Nat.le_trans hl (by decide)), rfl, ?_⟩
      have e3 : decide (V.str (Txt.stripChars (tx x) ("abcdefghijklmnopqrstuvwxyz" : Str)) = V.str ("" : Str)) = isPlain (.str x) := by
        rw [← tx_alpha, ← tx_nil, Bool.eq_iff_iff, decide_eq_true_iff]
        have := strip_iff x alpha
        constructor
        · intro h
          exact this.mp (V.str.inj h)
        · intro h
          exact congrArg V.str (this.mpr h)
      rw [e3]
      exact q
    | _ => exact absurd e2 (by simp [Dt.ty])
  · have e2 : isPlain d = false := by
      cases d with
      | str i => exact absurd (decide_eq_true rfl) e
      | _ => rfl
    rw [e2] at q
    exact q

def spIsWithin (K : PySem.W.Frag) : Sp := fun vs H Q _ => ∃ v d lo hi, vs = [v, .int lo, .int hi] ∧ At K H v d ∧ Q (.bl (isWithin d lo hi)) H
theorem ok_is_within (T : Txt K mg w) : FnOk P w K mg base CX0 2 T.f_is_within.f T.f_is_within.fd ["thing", "low", "high"] (spIsWithin K) := by
  refine T.f_is_within.F.ok sc_is_within (fun vs H Q E h => ?_) (fun cdv A outer s H vs Q E hr h => ?_)
  · obtain ⟨v, d, lo, hi, rfl, _⟩ := h
    rfl
  obtain ⟨v, d, lo, hi, rfl, hv, q⟩ := h
  refine ⟨_, (pss_one (ps_ret (pe_and (pe_call (ok_is_whole T) (hr.mono (by decide)) (by rfl) T.f_is_whole.g T.f_is_whole.F.kp T.f_is_whole.b .nil pass0 (pa_cons (pv 0) (pa_cons (pv 1) pa_nil))) (pe_one (pe_cmpR op_le (pv 0) (pv 2) (nomark _)))))), ?_⟩
  walk_at "rd"
  refine ⟨v, rfl, .int lo, rfl, v, d, lo, rfl, hv, _, rfl, ite2 (fun e => ?_) (fun e => ?_)⟩
  · cases d with
    | int i =>
      unfold At at hv
      subst hv
      rw [show isWithin (.int i) lo hi = (isWhole (.int i) lo && decide (i ≤ hi)) from rfl, e, Bool.true_and] at q
      exact ⟨_, rfl, _, rfl, i, hi, rfl, rfl, q⟩
    | _ => exact absurd e (by simp [isWhole])
  · have e2 : isWithin d lo hi = false := by
      cases d with
      | int i =>
        rw [show isWithin (.int i) lo hi = (isWhole (.int i) lo && decide (i ≤ hi)) from rfl, Bool.eq_false_iff.mpr e, Bool.false_and]
      | _ => rfl
    rw [e2] at q
    exact q

def spStr (f : Dt → Bool) (K : PySem.W.Frag) : Sp := fun vs H Q _ => ∃ v d, vs = [v] ∧ At K H v d ∧ Q (.bl (f d)) H
theorem plain_str {d : Dt} (h : isPlain d = true) : ∃ x, d = .str x ∧ x.all (alpha.contains ·) = true := by
  cases d with
  | str x => exact ⟨x, rfl, h⟩
  | _ => cases h
theorem ok_is_clip (T : Txt K mg w) : FnOk P w K mg base CX0 2 T.f_is_clip.f T.f_is_clip.fd ["thing"] (spStr isClip K) := by
  refine T.f_is_clip.F.ok sc_is_clip (fun vs H Q E h => ?_) (fun cdv A outer s H vs Q E hr h => ?_)
  · obtain ⟨v, d, rfl, _⟩ := h
    rfl
  obtain ⟨v, d, rfl, hv, q⟩ := h
  refine ⟨_, (pss_one (ps_ret (pe_and (pe_call (ok_is_plain T) (hr.mono (by decide)) (by rfl) T.f_is_plain.g T.f_is_plain.F.kp T.f_is_plain.b .nil pass0 (pa_cons (pv 0) pa_nil)) (pe_one (pe_cmpR op_le (pe_callB (call_lenK K) (by rfl) T.b_len (by decide +kernel) (pa_cons (pv 0) pa_nil)) (pe_c_LONGEST_WORD T) (nomark _)))))), ?_⟩
  walk_at "rd"
  refine ⟨v, rfl, v, d, rfl, hv, _, rfl, ite2 (fun e => ?_) (fun e => ?_)⟩
  · obtain ⟨x, rfl, hx⟩ := plain_str e
    unfold At at hv
    obtain ⟨rfl, hl⟩ := hv
    refine ⟨_, rfl, len_tx hl ⟨_, _, rfl, rfl, ?_⟩⟩
    have e3 : decide ((x.length : Int) ≤ 60) = isClip (.str x) := by
      rw [show isClip (.str x) = (isPlain (.str x) && decide (x.length ≤ 60)) from rfl, e, Bool.true_and, Bool.eq_iff_iff, decide_eq_true_iff, decide_eq_true_iff]
      omega
    rw [← e3] at q
    exact q
  · have e2 : isClip d = false := by
      cases d with
      | str x =>
        rw [show isClip (.str x) = (isPlain (.str x) && decide (x.length ≤ 60)) from rfl, Bool.eq_false_iff.mpr e, Bool.false_and]
      | _ => rfl
    rw [e2] at q
    exact q
theorem ok_is_word (T : Txt K mg w) : FnOk P w K mg base CX0 3 T.f_is_word.f T.f_is_word.fd ["thing"] (spStr isWord K) := by
  refine T.f_is_word.F.ok sc_is_word (fun vs H Q E h => ?_) (fun cdv A outer s H vs Q E hr h => ?_)
  · obtain ⟨v, d, rfl, _⟩ := h
    rfl
  obtain ⟨v, d, rfl, hv, q⟩ := h
  refine ⟨_, (pss_one (ps_ret (pe_and (pe_call (ok_is_clip T) (hr.mono (by decide)) (by rfl) T.f_is_clip.g T.f_is_clip.F.kp T.f_is_clip.b .nil pass0 (pa_cons (pv 0) pa_nil)) (pe_one (pe_cmpR op_ne (pv 0) pe_str (nomark _)))))), ?_⟩
  walk_at "rd"
  refine ⟨v, rfl, v, d, rfl, hv, _, rfl, ite2 (fun e => ?_) (fun e => ?_)⟩
  · cases d with
    | str x =>
      unfold At at hv
      obtain ⟨rfl, hl⟩ := hv
      refine ⟨_, rfl, rfl, ?_⟩
      have e3 : (!decide (V.str (tx x) = V.str ("" : Str))) = isWord (.str x) := by
        rw [show isWord (.str x) = (isClip (.str x) && decide (x ≠ [])) from rfl, e, Bool.true_and, ← tx_nil, Bool.eq_iff_iff, Bool.not_eq_true', decide_eq_false_iff_not, decide_eq_true_iff, tx_eq]
      rw [e3]
      exact q
    | _ => cases e
  · have e2 : isWord d = false := by
      cases d with
      | str x =>
        rw [show isWord (.str x) = (isClip (.str x) && decide (x ≠ [])) from rfl, Bool.eq_false_iff.mpr e, Bool.false_and]
      | _ => rfl
    rw [e2] at q
    exact q

/-! ## pieces -/
def spIsPiece (f : Dt → Bool) (K : PySem.W.Frag) : Sp := fun vs H Q _ => ∃ v d, vs = [v] ∧ At K H v d ∧ ∀ H', Same H H' → Q (.bl (f d)) H'
def spCheckText (K : PySem.W.Frag) : Sp := fun vs H Q _ => ∃ v d, vs = [v] ∧ At K H v d ∧ isText d = true ∧ ∀ H', Same H H' → Q .non H'
def spCheckLetter (K : PySem.W.Frag) : Sp := fun vs H Q _ => ∃ c, vs = [.str (tx [c])] ∧ alpha.contains c = true ∧ Q .non H

theorem six_neg {n len d : Nat} (h : 1 ≤ n) : HT.sIx len d (some (-(n : Int))) = len - n := by
  show (if (-(n : Int)) < 0 then (-(n : Int) + (len : Int)).toNat else min (-(n : Int)).toNat len) = len - n
  rw [if_pos (by omega)]
  omega
theorem cut_near (xs : List V) {n : Nat} (h : 1 ≤ n) : cutV xs (some (-(n : Int))) none = xs.drop (xs.length - n) := by
  unfold cutV
  rw [six_neg h]
  show (xs.drop (xs.length - n)).take (xs.length - (xs.length - n)) = _
  rw [List.take_of_length_le]
  rw [List.length_drop]
  omega
def spNearest : Sp := fun vs H Q _ => ∃ (a : Addr) (n : Nat) (xs : List V), vs = [.ref a, .int n] ∧ 1 ≤ n ∧ H a = some (.lst xs) ∧ ∀ p, H p = none → Q (.ref p) (upd H p (.lst (near xs n)))
theorem ok_nearest (T : Txt K mg w) : FnOk P w K mg base CX0 1 T.f_nearest.f T.f_nearest.fd ["side", "many"] spNearest := by
  refine T.f_nearest.F.ok sc_nearest (fun vs H Q E h => ?_) (fun cdv A outer s H vs Q E hr h => ?_)
  · obtain ⟨a, n, xs, rfl, _⟩ := h
    rfl
  obtain ⟨a, n, xs, rfl, hn, ha, q⟩ := h
  refine ⟨_, (pss_cons (ps_set (i := 2) sc_nearest.nd rfl (.inl rfl) (pe_slice sl_list (pv 0) (po_some (pe_un un_neg (pv 1))) po_none))
      (pss_cons (ps_expr (pe_bm0 PySem.F.plainAttrs_list PySem.F.slot_list_reverse PySem.F.type_list_reverse mt_reverse (pv 2)))
      (pss_one (ps_ret (pv 2))))), ?_⟩
  walk_at "rd"
  refine ⟨_, rfl, _, rfl, _, rfl, _, rfl, a, xs, rfl, SqL.of ha, fun p hp => ?_⟩
  rw [cut_near xs hn]
  refine ⟨_, rfl, .inl ⟨rfl, _, SqL.of upd_same⟩, p, _, rfl, rfl, upd_same, ?_⟩
  rw [upd_upd]
  exact ⟨_, rfl, q p hp⟩
def spTake : Sp := fun vs H Q _ => ∃ (a : Addr) (n : Nat) (xs : List V), vs = [.ref a, .int n] ∧ 1 ≤ n ∧ H a = some (.lst xs) ∧ ∀ p, H p = none → p ≠ a → Q (.ref p) (upd (upd H p (.lst (near xs n))) a (.lst (rest xs n)))
theorem ok_take (T : Txt K mg w) : FnOk P w K mg base CX0 2 T.f_take.f T.f_take.fd ["side", "many"] spTake := by
  refine T.f_take.F.ok sc_take (fun vs H Q E h => ?_) (fun cdv A outer s H vs Q E hr h => ?_)
  · obtain ⟨a, n, xs, rfl, _⟩ := h
    rfl
  obtain ⟨a, n, xs, rfl, hn, ha, q⟩ := h
  refine ⟨_, (pss_cons (ps_set (i := 2) sc_take.nd rfl (.inl rfl) (pe_call (ok_nearest T) (hr.mono (by decide)) (by rfl) T.f_nearest.g T.f_nearest.F.kp T.f_nearest.b .nil pass0 (pa_cons (pv 0) (pa_cons (pv 1) pa_nil))))
      (pss_cons (ps_delS (pv 0) (po_some (pe_un un_neg (pv 1))))
      (pss_one (ps_ret (pv 2))))), ?_⟩
  walk_at "rd"
  refine ⟨_, rfl, _, rfl, a, n, xs, rfl, hn, ha, fun p hp => ?_⟩
  have hpa : p ≠ a := fun e => by rw [e, ha] at hp; cases hp
  refine ⟨_, rfl, _, rfl, _, rfl, _, rfl, a, xs, rfl, (by rw [upd_ne hpa.symm]; exact ha), ?_⟩
  rw [six_neg hn]
  exact ⟨_, rfl, q p hp hpa⟩
theorem st_no {x y : Str} {A B : Prop} (h : x ≠ y) (b : B) : ∃ k, V.bl (decide (V.str x = V.str y)) = .bl k ∧ if k = true then A else B := ⟨_, rfl, by rw [decide_eq_false (fun e => h (V.str.inj e)), if_neg Bool.false_ne_true]; exact b⟩
theorem st_yes {x : Str} {A B : Prop} (a : A) : ∃ k, V.bl (decide (V.str x = V.str x)) = .bl k ∧ if k = true then A else B := ⟨_, rfl, by rw [decide_eq_true rfl, if_pos rfl]; exact a⟩
def sdV (s : Sd V) (H : Hp) (a b c : Addr) : Prop := H a = some (.lst s.l) ∧ H b = some (.lst s.r) ∧ H c = some (.lst s.c) ∧ a ≠ b ∧ a ≠ c ∧ b ≠ c
/-- a key whose word may stand as a list of things -/
def SrcKey (K : PySem.W.Frag) (H : Hp) (f : Nat → V) (kv : V) (k : Ky) : Prop := (∃ (w : List Nat) (u l : Addr), k = .write w ∧ kv = .ref u ∧ Row K H u [.str "write", .ref l] ∧ Row K H l (w.map f) ∧ w.length ≤ 60) ∨ (KeyAt K H kv k ∧ k.ok ∧ ∀ w, k = .write w → w.map f = w.map lV)
def spDoKey (K : PySem.W.Frag) : Sp := fun vs H Q _ => ∃ (f : Nat → V) (kv : V) (k : Ky) (a b c : Addr) (s : Sd V), vs = [kv, .ref a, .ref b, .ref c] ∧ SrcKey K H f kv k ∧ sdV s H a b c ∧ s.size + s.c.length + 60 ≤ 2000000 ∧
  ∀ p H', (∀ x o, x ≠ a → x ≠ b → H x = some o → H' x = some o) → sdV (step f k s) H' a b p → Q (.ref p) H'
theorem ok_do_key (T : Txt K mg w) : FnOk P w K mg base CX0 3 T.f_do_key.f T.f_do_key.fd ["key", "left", "right", "held"] (spDoKey K) := by
  refine T.f_do_key.F.ok sc_do_key (fun vs H Q E h => ?_) (fun cdv A outer s H vs Q E hr h => ?_)
  · obtain ⟨f, kv, k, a, b, c, s, rfl, _⟩ := h
    rfl
  obtain ⟨f, kv, k, a, b, c, s, rfl, hsk, ⟨ha, hb, hc, hab, hac, hbc⟩, hz, q⟩ := h
  refine ⟨_, (pss_cons (ps_set (i := 4) sc_do_key.nd rfl (.inl rfl) (pe_ix ix_seq (pv 0) pe_int (fun _ _ => rfl)))
      (pss_cons (ps_if (pt_cmpR op_eq (pv 4) pe_str (nomark _)) (pss_one (ps_expr (pe_bm PySem.F.plainAttrs_list PySem.F.slot_list_extend PySem.F.type_list_extend mt_extend (pv 1) (pa_cons (pe_callTy (call_list_any rfl) (by rfl) T.b_list (by decide +kernel) (pa_cons (pe_ix ix_seq (pv 0) pe_int (fun _ _ => rfl)) pa_nil)) pa_nil)))) (pss_one (ps_if (pt_cmpR op_eq (pv 4) pe_str (nomark _)) (pss_one (ps_expr (pe_bm PySem.F.plainAttrs_list PySem.F.slot_list_extend PySem.F.type_list_extend mt_extend (pv 1) (pa_cons (pv 3) pa_nil)))) (pss_one (ps_if (pt_cmpR op_eq (pv 4) pe_str (nomark _)) (pss_one (ps_expr (pe_bm PySem.F.plainAttrs_list PySem.F.slot_list_extend PySem.F.type_list_extend mt_extend (pv 2) (pa_cons (pe_call (ok_take T) (hr.mono (by decide)) (by rfl) T.f_take.g T.f_take.F.kp T.f_take.b .nil pass0 (pa_cons (pv 1) (pa_cons (pe_ix ix_seq (pv 0) pe_int (fun _ _ => rfl)) pa_nil))) pa_nil)))) (pss_one (ps_if (pt_cmpR op_eq (pv 4) pe_str (nomark _)) (pss_one (ps_expr (pe_bm PySem.F.plainAttrs_list PySem.F.slot_list_extend PySem.F.type_list_extend mt_extend (pv 1) (pa_cons (pe_call (ok_take T) (hr.mono (by decide)) (by rfl) T.f_take.g T.f_take.F.kp T.f_take.b .nil pass0 (pa_cons (pv 2) (pa_cons (pe_ix ix_seq (pv 0) pe_int (fun _ _ => rfl)) pa_nil))) pa_nil)))) (pss_one (ps_if (pt_cmpR op_eq (pv 4) pe_str (nomark _)) (pss_one (ps_expr (pe_call (ok_take T) (hr.mono (by decide)) (by rfl) T.f_take.g T.f_take.F.kp T.f_take.b .nil pass0 (pa_cons (pv 1) (pa_cons (pe_ix ix_seq (pv 0) pe_int (fun _ _ => rfl)) pa_nil))))) (pss_one (ps_if (pt_cmpR op_eq (pv 4) pe_str (nomark _)) (pss_one (ps_expr (pe_call (ok_take T) (hr.mono (by decide)) (by rfl) T.f_take.g T.f_take.F.kp T.f_take.b .nil pass0 (pa_cons (pv 2) (pa_cons (pe_ix ix_seq (pv 0) pe_int (fun _ _ => rfl)) pa_nil))))) (pss_one (ps_if (pt_cmpR op_eq (pv 4) pe_str (nomark _)) (pss_one (ps_ret (pe_call (ok_nearest T) (hr.mono (by decide)) (by rfl) T.f_nearest.g T.f_nearest.F.kp T.f_nearest.b .nil pass0 (pa_cons (pv 2) (pa_cons (pe_ix ix_seq (pv 0) pe_int (fun _ _ => rfl)) pa_nil))))) (pss_one (ps_ret (pe_call (ok_take T) (hr.mono (by decide)) (by rfl) T.f_take.g T.f_take.F.kp T.f_take.b .nil pass0 (pa_cons (pv 2) (pa_cons (pe_ix ix_seq (pv 0) pe_int (fun _ _ => rfl)) pa_nil))))))))))))))))))
      (pss_one (ps_ret (pv 3))))), ?_⟩
  walk_at "rd"
  unfold Sd.size at hz
  have fr : ∀ {x p : Addr} {o : HO}, H p = none → H x = some o → x ≠ p := fun hp hx e => by rw [e, hp] at hx; cases hx
  have big : ∀ {m : Nat}, m ≤ 2000000 → m ≤ sizeLine := fun h => Nat.le_trans h (by decide)
  rcases hsk with ⟨w, u, l, rfl, rfl, hk, hl, hw⟩ | ⟨⟨u, rfl, hk⟩, hok, hwf⟩
  · refine ⟨_, rfl, ix_row hk (at_ofA (j := 0) rfl rfl) ⟨_, rfl, rfl, st_yes ?_⟩⟩
    walk_at "rd"
    refine ⟨_, rfl, .inl ⟨rfl, _, SqL.of ha⟩, _, rfl, ix_row hk (at_ofA (j := 1) rfl rfl) (.inr ⟨l, w.map f, rfl, hl, fun p hp => ?_⟩)⟩
    refine ⟨a, p, s.l, w.map f, rfl, rfl, by rw [upd_ne (fr hp ha)]; exact ha, upd_same, big ?_, _, rfl, q c _ (fun x o xa xb hx => ?_) ⟨upd_same, ?_, ?_, hab, hac, hbc⟩⟩
    · rw [List.length_map]
      omega
    · rw [upd_ne xa, upd_ne (fr hp hx)]
      exact hx
    · rw [upd_ne hab.symm, upd_ne (fr hp hb)]
      exact hb
    · rw [upd_ne hac.symm, upd_ne (fr hp hc)]
      exact hc
  cases k with
  | write w =>
    refine ⟨_, rfl, ix_row hk (at_ofA (j := 0) rfl rfl) ⟨_, rfl, rfl, st_yes ?_⟩⟩
    walk_at "rd"
    refine ⟨_, rfl, .inl ⟨rfl, _, SqL.of ha⟩, _, rfl, ix_row hk (at_ofA (j := 1) rfl rfl) (.inl ⟨tx w, rfl, ?_, fun p hp => ?_⟩)⟩
    · rw [← Array.length_toList, tx_cps]
      have := hok.2.1
      exact big (by omega)
    · rw [tx_cps]
      have q := fun p H' h1 h2 => q p H' h1 (show sdV ⟨s.l ++ w.map f, s.r, s.c⟩ H' a b p by rw [hwf w rfl]; exact h2)
      refine ⟨a, p, s.l, w.map lV, rfl, rfl, by rw [upd_ne (fr hp ha)]; exact ha, upd_same, big ?_, _, rfl, q c _ (fun x o xa xb hx => ?_) ⟨upd_same, ?_, ?_, hab, hac, hbc⟩⟩
      · rw [List.length_map]
        have := hok.2.1
        omega
      · rw [upd_ne xa, upd_ne (fr hp hx)]
        exact hx
      · rw [upd_ne hab.symm, upd_ne (fr hp hb)]
        exact hb
      · rw [upd_ne hac.symm, upd_ne (fr hp hc)]
        exact hc
  | paste =>
    refine ⟨_, rfl, ix_row hk (at_ofA (j := 0) rfl rfl) ⟨_, rfl, rfl, st_no (by decide) ⟨_, rfl, rfl, st_yes ?_⟩⟩⟩
    walk_at "rd"
    refine ⟨_, rfl, .inl ⟨rfl, _, SqL.of ha⟩, _, rfl, a, c, s.l, s.c, rfl, rfl, ha, hc, big (by omega), _, rfl, q c _ (fun x o xa xb hx => ?_) ⟨upd_same, ?_, ?_, hab, hac, hbc⟩⟩
    · rw [upd_ne xa]
      exact hx
    · rw [upd_ne hab.symm]
      exact hb
    · rw [upd_ne hac.symm]
      exact hc
  | left n =>
    refine ⟨_, rfl, ix_row hk (at_ofA (j := 0) rfl rfl) ⟨_, rfl, rfl, st_no (by decide) ⟨_, rfl, rfl, st_no (by decide) ⟨_, rfl, rfl, st_yes ?_⟩⟩⟩⟩
    walk_at "rd"
    refine ⟨_, rfl, .inl ⟨rfl, _, SqL.of hb⟩, _, rfl, _, rfl, ix_row hk (at_ofA (j := 1) rfl rfl) ⟨a, n, s.l, rfl, hok, ha, fun p hp hpa => ?_⟩⟩
    refine ⟨b, p, s.r, near s.l n, rfl, rfl, by rw [upd_ne hab.symm, upd_ne (fr hp hb)]; exact hb, by rw [upd_ne hpa, upd_same], big ?_, _, rfl, q c _ (fun x o xa xb hx => ?_) ⟨?_, upd_same, ?_, hab, hac, hbc⟩⟩
    · rw [near_len]
      omega
    · rw [upd_ne xb, upd_ne xa, upd_ne (fr hp hx)]
      exact hx
    · rw [upd_ne hab, upd_same]
      rfl
    · rw [upd_ne hbc.symm, upd_ne hac.symm, upd_ne (fr hp hc)]
      exact hc
  | right n =>
    refine ⟨_, rfl, ix_row hk (at_ofA (j := 0) rfl rfl) ⟨_, rfl, rfl, st_no (by decide) ⟨_, rfl, rfl, st_no (by decide) ⟨_, rfl, rfl, st_no (by decide) ⟨_, rfl, rfl, st_yes ?_⟩⟩⟩⟩⟩
    walk_at "rd"
    refine ⟨_, rfl, .inl ⟨rfl, _, SqL.of ha⟩, _, rfl, _, rfl, ix_row hk (at_ofA (j := 1) rfl rfl) ⟨b, n, s.r, rfl, hok, hb, fun p hp hpb => ?_⟩⟩
    refine ⟨a, p, s.l, near s.r n, rfl, rfl, by rw [upd_ne hab, upd_ne (fr hp ha)]; exact ha, by rw [upd_ne hpb, upd_same], big ?_, _, rfl, q c _ (fun x o xa xb hx => ?_) ⟨upd_same, ?_, ?_, hab, hac, hbc⟩⟩
    · rw [near_len]
      omega
    · rw [upd_ne xa, upd_ne xb, upd_ne (fr hp hx)]
      exact hx
    · rw [upd_ne hab.symm, upd_same]
      rfl
    · rw [upd_ne hac.symm, upd_ne hbc.symm, upd_ne (fr hp hc)]
      exact hc
  | rub n =>
    refine ⟨_, rfl, ix_row hk (at_ofA (j := 0) rfl rfl) ⟨_, rfl, rfl, st_no (by decide) ⟨_, rfl, rfl, st_no (by decide) ⟨_, rfl, rfl, st_no (by decide) ⟨_, rfl, rfl, st_no (by decide) ⟨_, rfl, rfl, st_yes ?_⟩⟩⟩⟩⟩⟩
    walk_at "rd"
    refine ⟨_, rfl, _, rfl, ix_row hk (at_ofA (j := 1) rfl rfl) ⟨a, n, s.l, rfl, hok, ha, fun p hp hpa => ?_⟩⟩
    refine ⟨_, rfl, q c _ (fun x o xa xb hx => ?_) ⟨upd_same, ?_, ?_, hab, hac, hbc⟩⟩
    · rw [upd_ne xa, upd_ne (fr hp hx)]
      exact hx
    · rw [upd_ne hab.symm, upd_ne (fr hp hb)]
      exact hb
    · rw [upd_ne hac.symm, upd_ne (fr hp hc)]
      exact hc
  | strike n =>
    refine ⟨_, rfl, ix_row hk (at_ofA (j := 0) rfl rfl) ⟨_, rfl, rfl, st_no (by decide) ⟨_, rfl, rfl, st_no (by decide) ⟨_, rfl, rfl, st_no (by decide) ⟨_, rfl, rfl, st_no (by decide) ⟨_, rfl, rfl, st_no (by decide) ⟨_, rfl, rfl, st_yes ?_⟩⟩⟩⟩⟩⟩⟩
    walk_at "rd"
    refine ⟨_, rfl, _, rfl, ix_row hk (at_ofA (j := 1) rfl rfl) ⟨b, n, s.r, rfl, hok, hb, fun p hp hpb => ?_⟩⟩
    refine ⟨_, rfl, q c _ (fun x o xa xb hx => ?_) ⟨?_, upd_same, ?_, hab, hac, hbc⟩⟩
    · rw [upd_ne xb, upd_ne (fr hp hx)]
      exact hx
    · rw [upd_ne hab, upd_ne (fr hp ha)]
      exact ha
    · rw [upd_ne hbc.symm, upd_ne (fr hp hc)]
      exact hc
  | copy n =>
    refine ⟨_, rfl, ix_row hk (at_ofA (j := 0) rfl rfl) ⟨_, rfl, rfl, st_no (by decide) ⟨_, rfl, rfl, st_no (by decide) ⟨_, rfl, rfl, st_no (by decide) ⟨_, rfl, rfl, st_no (by decide) ⟨_, rfl, rfl, st_no (by decide) ⟨_, rfl, rfl, st_no (by decide) ⟨_, rfl, rfl, st_yes ?_⟩⟩⟩⟩⟩⟩⟩⟩
    walk_at "rd"
    refine ⟨_, rfl, _, rfl, ix_row hk (at_ofA (j := 1) rfl rfl) ⟨b, n, s.r, rfl, hok, hb, fun p hp => ?_⟩⟩
    refine q p _ (fun x o xa xb hx => ?_) ⟨?_, ?_, upd_same, hab, fr hp ha, fr hp hb⟩
    · rw [upd_ne (fr hp hx)]
      exact hx
    · rw [upd_ne (fr hp ha)]
      exact ha
    · rw [upd_ne (fr hp hb)]
      exact hb
  | cut n =>
    refine ⟨_, rfl, ix_row hk (at_ofA (j := 0) rfl rfl) ⟨_, rfl, rfl, st_no (by decide) ⟨_, rfl, rfl, st_no (by decide) ⟨_, rfl, rfl, st_no (by decide) ⟨_, rfl, rfl, st_no (by decide) ⟨_, rfl, rfl, st_no (by decide) ⟨_, rfl, rfl, st_no (by decide) ⟨_, rfl, rfl, st_no (by decide) ?_⟩⟩⟩⟩⟩⟩⟩⟩
    walk_at "rd"
    refine ⟨_, rfl, _, rfl, ix_row hk (at_ofA (j := 1) rfl rfl) ⟨b, n, s.r, rfl, hok, hb, fun p hp hpb => ?_⟩⟩
    refine q p _ (fun x o xa xb hx => ?_) ⟨?_, upd_same, by rw [upd_ne hpb, upd_same]; rfl, hab, fr hp ha, fr hp hb⟩
    · rw [upd_ne xb, upd_ne (fr hp hx)]
      exact hx
    · rw [upd_ne hab, upd_ne (fr hp ha)]
      exact ha

theorem prd_rel {α β : Type} {R : α → β → Prop} : ∀ {xs : List α} {ys : List β} {i : Nat} {x : α} {y : β}, Paired R xs ys → xs[i]? = some x → ys[i]? = some y → R x y
  | _, _, i, x, y, .nil, h, _ => by simp at h
  | _, _, 0, x, y, .cons r _, h1, h2 => by
    have e1 := Option.some.inj h1
    have e2 := Option.some.inj h2
    rw [← e1, ← e2]
    exact r
  | _, _, i + 1, x, y, .cons _ t, h1, h2 => prd_rel t (by simpa using h1) (by simpa using h2)
def spKeyWeight (K : PySem.W.Frag) : Sp := fun vs H Q _ => ∃ kv k, vs = [kv] ∧ KeyAt K H kv k ∧ k.ok ∧ Q (.int k.wt) H
theorem ok_key_weight (T : Txt K mg w) : FnOk P w K mg base CX0 1 T.f_key_weight.f T.f_key_weight.fd ["key"] (spKeyWeight K) := by
  refine T.f_key_weight.F.ok sc_key_weight (fun vs H Q E h => ?_) (fun cdv A outer s H vs Q E hr h => ?_)
  · obtain ⟨kv, k, rfl, _⟩ := h
    rfl
  obtain ⟨kv, k, rfl, ⟨u, rfl, hk⟩, hok, q⟩ := h
  refine ⟨_, (pss_cons (ps_if (pt_cmpR op_eq (pe_ix ix_seq (pv 0) pe_int (fun _ _ => rfl)) pe_str (nomark _)) (pss_one (ps_ret pe_int)) pss_nil)
      (pss_cons (ps_if (pt_cmpR op_eq (pe_ix ix_seq (pv 0) pe_int (fun _ _ => rfl)) pe_str (nomark _)) (pss_one (ps_ret (pe_callB (call_lenK K) (by rfl) T.b_len (by decide +kernel) (pa_cons (pe_ix ix_seq (pv 0) pe_int (fun _ _ => rfl)) pa_nil)))) pss_nil)
      (pss_one (ps_ret (pe_ix ix_seq (pv 0) pe_int (fun _ _ => rfl)))))), ?_⟩
  walk_at "rd"
  cases k with
  | write w => exact ⟨_, rfl, ix_row hk (at_ofA (j := 0) rfl rfl) ⟨rfl, st_no (by decide) ⟨_, rfl, ix_row hk (at_ofA (j := 0) rfl rfl) ⟨rfl, st_yes ⟨_, rfl, ix_row hk (at_ofA (j := 1) rfl rfl) (len_tx (Nat.le_trans hok.2.1 (by decide)) q)⟩⟩⟩⟩⟩
  | paste => exact ⟨_, rfl, ix_row hk (at_ofA (j := 0) rfl rfl) ⟨rfl, st_yes q⟩⟩
  | left n | right n | strike n | rub n | copy n | cut n => exact ⟨_, rfl, ix_row hk (at_ofA (j := 0) rfl rfl) ⟨rfl, st_no (by decide) ⟨_, rfl, ix_row hk (at_ofA (j := 0) rfl rfl) ⟨rfl, st_no (by decide) ⟨_, rfl, ix_row hk (at_ofA (j := 1) rfl rfl) q⟩⟩⟩⟩⟩
def spWeigh (K : PySem.W.Frag) : Sp := fun vs H Q _ => ∃ hv ks, vs = [hv] ∧ HandAt K H hv ks ∧ (∀ k ∈ ks, k.ok) ∧ ks.length ≤ 60 ∧ ∀ H', Same H H' → Q (.int (hwt ks : Nat)) H'
theorem hwt_sum : ∀ ks : List Ky, (ks.map fun k => (k.wt : Int)).sum = (hwt ks : Nat)
  | [] => rfl
  | k :: ks => by
    rw [List.map_cons, List.sum_cons, hwt_sum ks, hwt_cons]
    omega
theorem ok_weigh (T : Txt K mg w) : FnOk P w K mg base CX0 2 T.f_weigh.f T.f_weigh.fd ["keys"] (spWeigh K) := by
  refine T.f_weigh.F.ok sc_weigh (fun vs H Q E h => ?_) (fun cdv A outer s H vs Q E hr h => ?_)
  · obtain ⟨hv, ks, rfl, _⟩ := h
    rfl
  obtain ⟨hv, ks, rfl, ⟨a, xs, rfl, hrow, hp⟩, hok, hl, q⟩ := h
  refine ⟨_, (pss_one (ps_ret (pe_callB (cr_sum rfl) (by rfl) T.b_sum (by decide +kernel) (pa_cons (pe_lc (own := [("key", 1)]) rfl sc_weigh.nd (pi_seq (pv 0)) (blkOk_by (own := [("key", 1)]) (N := N_weigh) (sc := defScope s_weigh) (by decide +kernel)) (fun _ _ _ _ _ => (pg_name (i := 1) sc_weigh.nd rfl (.inl rfl))) (fun _ _ _ _ _ => pts_nil) (fun _ _ _ _ _ => (pe_call (ok_key_weight T) (hr.mono (by decide)) (by rfl) T.f_key_weight.g T.f_key_weight.F.kp T.f_key_weight.b .nil pass0 (pa_cons (pv 1) pa_nil)))) pa_nil)))), ?_⟩
  walk_at "rd"
  have hlen : xs.length = ks.length := prd_len hp
  refine lc_rowN (a := a) (xs := xs) (ys := (ks.map fun k => (k.wt : Int)).map V.int) rfl hrow (by rw [List.length_map, List.length_map]; exact hlen) ?_ (fun _ => rfl) (fun _ _ _ h => h) (fun i x y H' hx hy s1 R hR => ?_) (fun D H' s1 nD hD => ?_)
  · rw [List.length_map, List.length_map]
    exact Nat.lt_of_le_of_lt hl (by decide)
  · obtain ⟨k, hk, r⟩ := prd_at hp hx
    rw [List.getElem?_map, List.getElem?_map, hk] at hy
    have hy := Option.some.inj hy
    subst hy
    exact ⟨_, rfl, x, k, rfl, r.same s1, hok k (List.mem_of_getElem? hk), hR _ (Same.refl _)⟩
  · refine ⟨D, _, rfl, SqL.of hD, ?_⟩
    rw [hwt_sum]
    exact q _ s1

def nm (z : Str) : List Nat := z.cps.toList
def Ky.kn : Ky → Str
  | .write _ => "write"
  | .paste => "paste"
  | .left _ => "left"
  | .right _ => "right"
  | .strike _ => "strike"
  | .rub _ => "rub"
  | .copy _ => "copy"
  | .cut _ => "cut"
theorem kn_names : ∀ z ∈ (["write", "paste", "left", "right", "strike", "rub", "copy", "cut"] : List Str), (nm z).all (alpha.contains ·) = true ∧ (nm z).length ≤ 10 := by decide +kernel
theorem kn_plain (k : Ky) : (nm k.kn).all (alpha.contains ·) = true ∧ (nm k.kn).length ≤ 1000000 := by
  have h := kn_names k.kn (by cases k <;> simp [Ky.kn])
  exact ⟨h.1, Nat.le_trans h.2 (by decide)⟩
def kD : Ky → List Dt
  | .write w => [.str (nm "write"), .str w]
  | .paste => [.str (nm "paste")]
  | .left n => [.str (nm "left"), .int n]
  | .right n => [.str (nm "right"), .int n]
  | .strike n => [.str (nm "strike"), .int n]
  | .rub n => [.str (nm "rub"), .int n]
  | .copy n => [.str (nm "copy"), .int n]
  | .cut n => [.str (nm "cut"), .int n]
theorem at_str {K : PySem.W.Frag} {H : Hp} (z : Str) (h : (nm z).length ≤ 1000000) : At K H (.str z) (.str (nm z)) := by
  unfold At
  exact ⟨by unfold nm; rw [tx_of], h⟩
theorem ats_key {K : PySem.W.Frag} {H : Hp} (k : Ky) (hk : k.ok) : Ats K H k.vs (kD k) := by
  have h1 := (kn_plain k).2
  have hi : ∀ n : Nat, At K H (.int n) (.int n) := fun n => by unfold At; rfl
  have h0 : Ats K H [] [] := by unfold Ats; rfl
  have h2 : ∀ {v u : V} {c d : Dt}, At K H v c → At K H u d → Ats K H [v, u] [c, d] := fun a b => by
    unfold Ats
    refine ⟨_, _, rfl, a, ?_⟩
    unfold Ats
    exact ⟨_, _, rfl, b, h0⟩
  cases k with
  | write w => exact h2 (at_str "write" h1) (by unfold At; exact ⟨rfl, Nat.le_trans hk.2.1 (by decide)⟩)
  | paste =>
    show Ats K H [.str "paste"] [.str (nm "paste")]
    unfold Ats
    exact ⟨_, _, rfl, at_str "paste" h1, h0⟩
  | left n => exact h2 (at_str "left" h1) (hi n)
  | right n => exact h2 (at_str "right" h1) (hi n)
  | strike n => exact h2 (at_str "strike" h1) (hi n)
  | rub n => exact h2 (at_str "rub" h1) (hi n)
  | copy n => exact h2 (at_str "copy" h1) (hi n)
  | cut n => exact h2 (at_str "cut" h1) (hi n)
theorem at_key {K : PySem.W.Frag} {H : Hp} {v : V} {k : Ky} (h : KeyAt K H v k) (hk : k.ok) : ∃ d, At K H v d ∧ isRow d = true := by
  obtain ⟨a, rfl, h⟩ := h
  rcases h with h | h
  · exact ⟨.lst (kD k), by unfold At; exact ⟨a, _, rfl, h, ats_key k hk⟩, rfl⟩
  · exact ⟨.tup (kD k), by unfold At; exact ⟨a, _, rfl, h, ats_key k hk⟩, rfl⟩
theorem vs_0 : ∀ k : Ky, k.vs[0]? = some (.str k.kn)
  | .write _ | .paste | .left _ | .right _ | .strike _ | .rub _ | .copy _ | .cut _ => rfl
theorem vs_len (k : Ky) : ¬ ((k.vs.length : Int) = 0) := by cases k <;> simp [Ky.vs] <;> omega
theorem iteN {A B : Prop} {b : Bool} (h : b = false) (q : B) : (if b = true then A else B) := by rw [h, if_neg Bool.false_ne_true]; exact q
theorem iteY {A B : Prop} {b : Bool} (h : b = true) (q : A) : (if b = true then A else B) := by rw [h, if_pos rfl]; exact q
def spIsKey (K : PySem.W.Frag) : Sp := fun vs H Q _ => ∃ kv k, vs = [kv] ∧ KeyAt K H kv k ∧ k.ok ∧ ∀ H', Same H H' → Q (.bl true) H'
theorem ok_is_key (T : Txt K mg w) : FnOk P w K mg base CX0 4 T.f_is_key.f T.f_is_key.fd ["thing"] (spIsKey K) := by
  refine T.f_is_key.F.ok sc_is_key (fun vs H Q E h => ?_) (fun cdv A outer s H vs Q E hr h => ?_)
  · obtain ⟨kv, k, rfl, _⟩ := h
    rfl
  obtain ⟨kv, k, rfl, hk, hok, q⟩ := h
  obtain ⟨d, hd, hd2⟩ := at_key hk hok
  obtain ⟨u, rfl, hrow⟩ := hk
  refine ⟨_, (pss_cons (ps_if (PW.pt (pw_or (pt_not (pt_val (pe_call (ok_is_row T) (hr.mono (by decide)) (by rfl) T.f_is_row.g T.f_is_row.F.kp T.f_is_row.b .nil pass0 (pa_cons (pv 0) pa_nil)))) (pw_or (pt_cmpR op_eq (pe_callB (call_lenK K) (by rfl) T.b_len (by decide +kernel) (pa_cons (pv 0) pa_nil)) pe_int (nomark _)) (pw_or1 (pt_not (pt_val (pe_call (ok_is_plain T) (hr.mono (by decide)) (by rfl) T.f_is_plain.g T.f_is_plain.F.kp T.f_is_plain.b .nil pass0 (pa_cons (pe_ix ix_seq (pv 0) pe_int (fun _ _ => rfl)) pa_nil)))))))) (pss_one (ps_ret pe_bl)) pss_nil)
      (pss_cons (ps_if (pt_cmpR op_eq (pe_ix ix_seq (pv 0) pe_int (fun _ _ => rfl)) pe_str (nomark _)) (pss_one (ps_ret (pe_cmpR op_eq (pe_callB (call_lenK K) (by rfl) T.b_len (by decide +kernel) (pa_cons (pv 0) pa_nil)) pe_int (nomark _)))) pss_nil)
      (pss_cons (ps_if (pt_cmpR op_ne (pe_callB (call_lenK K) (by rfl) T.b_len (by decide +kernel) (pa_cons (pv 0) pa_nil)) pe_int (nomark _)) (pss_one (ps_ret pe_bl)) pss_nil)
      (pss_cons (ps_if (pt_cmpR op_eq (pe_ix ix_seq (pv 0) pe_int (fun _ _ => rfl)) pe_str (nomark _)) (pss_one (ps_ret (pe_call (ok_is_word T) (hr.mono (by decide)) (by rfl) T.f_is_word.g T.f_is_word.F.kp T.f_is_word.b .nil pass0 (pa_cons (pe_ix ix_seq (pv 0) pe_int (fun _ _ => rfl)) pa_nil)))) pss_nil)
      (pss_one (ps_ret (pe_and (pe_cmpR (op_in_sd T.c_SIDES) (pe_ix ix_seq (pv 0) pe_int (fun _ _ => rfl)) (pe_sd T.c_SIDES (by rfl) (by decide)) (by rfl)) (pe_one (pe_call (ok_is_whole T) (hr.mono (by decide)) (by rfl) T.f_is_whole.g T.f_is_whole.F.kp T.f_is_whole.b .nil pass0 (pa_cons (pe_ix ix_seq (pv 0) pe_int (fun _ _ => rfl)) (pa_cons pe_int pa_nil))))))))))), ?_⟩
  walk_at "rd"
  refine ⟨_, rfl, _, d, rfl, hd, fun H1 s1 => ⟨_, rfl, ?_⟩⟩
  have hrow1 := hrow.same s1
  rw [hd2]
  refine iteN rfl ⟨_, rfl, len_row hrow1 ⟨rfl, _, rfl, iteN (decide_eq_false (fun e => vs_len k (V.int.inj e))) ⟨_, rfl, ix_row hrow1 (at_ofA (j := 0) rfl (vs_0 k)) ⟨_, _, rfl, at_str k.kn (kn_plain k).2, _, rfl, ?_⟩⟩⟩⟩
  have hp : isPlain (.str (nm k.kn)) = true := (kn_plain k).1
  rw [hp]
  refine iteN rfl ?_
  have two : ∀ {x y : V}, Row K H1 u [x, y] → ∀ {A : Prop} {R : VK}, (∀ b, b = false → R (.bl b) H1) → rLenA K [.ref u] H1 fun x H1 => rNe x (V.int 2) H1 R := fun h _ R q => len_row h ⟨rfl, q _ (by rw [decide_eq_true (show V.int (([_, _] : List V).length : Int) = V.int 2 from rfl)]; rfl)⟩
  cases k with
  | write w =>
    refine ⟨_, rfl, ix_row hrow1 (at_ofA (j := 0) rfl rfl) ⟨rfl, st_no (by decide) ⟨_, rfl, two hrow1 (A := True) fun b hb => ⟨_, rfl, iteN hb ⟨_, rfl, ix_row hrow1 (at_ofA (j := 0) rfl rfl) ⟨rfl, st_yes ?_⟩⟩⟩⟩⟩⟩
    refine ⟨_, rfl, ix_row hrow1 (at_ofA (j := 1) rfl rfl) ⟨_, .str w, rfl, by unfold At; exact ⟨rfl, Nat.le_trans hok.2.1 (by decide)⟩, ?_⟩⟩
    have e : isWord (.str w) = true := by
      show ((w.all (alpha.contains ·) && decide (w.length ≤ 60)) && decide (w ≠ [])) = true
      rw [show w.all (alpha.contains ·) = true from hok.2.2, decide_eq_true hok.2.1, decide_eq_true hok.1]
      rfl
    rw [e]
    exact q _ s1
  | paste =>
    refine ⟨_, rfl, ix_row hrow1 (at_ofA (j := 0) rfl rfl) ⟨rfl, st_yes ⟨_, rfl, len_row hrow1 ⟨rfl, ?_⟩⟩⟩⟩
    rw [decide_eq_true (show V.int ((Ky.paste.vs.length : Nat) : Int) = V.int 1 from rfl)]
    exact q _ s1
  | left n | right n | strike n | rub n | copy n | cut n =>
    refine ⟨_, rfl, ix_row hrow1 (at_ofA (j := 0) rfl rfl) ⟨rfl, st_no (by decide) ⟨_, rfl, two hrow1 (A := True) fun b hb => ⟨_, rfl, iteN hb ⟨_, rfl, ix_row hrow1 (at_ofA (j := 0) rfl rfl) ⟨rfl, st_no (by decide) ?_⟩⟩⟩⟩⟩⟩
    refine ⟨_, rfl, ix_row hrow1 (at_ofA (j := 0) rfl rfl) ⟨_, rfl, rfl, _, rfl, iteY (by decide) ?_⟩⟩
    refine ⟨_, rfl, ix_row hrow1 (at_ofA (j := 1) rfl rfl) ⟨_, .int n, 1, rfl, by unfold At; rfl, ?_⟩⟩
    have hn : 1 ≤ n := hok
    rw [show isWhole (.int n) 1 = true from decide_eq_true (by omega)]
    exact q _ s1
theorem at_hand {K : PySem.W.Frag} {H : Hp} {v : V} {ks : List Ky} (h : HandAt K H v ks) (hk : ∀ k ∈ ks, k.ok) : ∃ d, At K H v d ∧ isRow d = true := by
  obtain ⟨a, xs, rfl, h, hp⟩ := h
  have hx : ∃ ds, Ats K H xs ds := by
    clear h
    induction hp with
    | nil => exact ⟨[], by unfold Ats; rfl⟩
    | cons r t ih =>
      obtain ⟨ds, hd⟩ := ih fun k hk' => hk k (List.mem_cons_of_mem _ hk')
      obtain ⟨d, h1, _⟩ := at_key r (hk _ (List.mem_cons_self ..))
      exact ⟨d :: ds, by unfold Ats; exact ⟨_, _, rfl, h1, hd⟩⟩
  obtain ⟨ds, hd⟩ := hx
  rcases h with h | h
  · exact ⟨.lst ds, by unfold At; exact ⟨a, _, rfl, h, hd⟩, rfl⟩
  · exact ⟨.tup ds, by unfold At; exact ⟨a, _, rfl, h, hd⟩, rfl⟩
def spIsHand (K : PySem.W.Frag) : Sp := fun vs H Q _ => ∃ hv ks, vs = [hv] ∧ HandAt K H hv ks ∧ GoodH ks ∧ ∀ H', Same H H' → Q (.bl true) H'
theorem ok_is_hand (T : Txt K mg w) : FnOk P w K mg base CX0 5 T.f_is_hand.f T.f_is_hand.fd ["thing"] (spIsHand K) := by
  refine T.f_is_hand.F.ok sc_is_hand (fun vs H Q E h => ?_) (fun cdv A outer s H vs Q E hr h => ?_)
  · obtain ⟨hv, ks, rfl, _⟩ := h
    rfl
  obtain ⟨hv, ks, rfl, hh, hg, q⟩ := h
  obtain ⟨d, hd, hd2⟩ := at_hand hh hg.ok
  refine ⟨_, (pss_cons (ps_if (PW.pt (pw_or (pt_not (pt_val (pe_call (ok_is_row T) (hr.mono (by decide)) (by rfl) T.f_is_row.g T.f_is_row.F.kp T.f_is_row.b .nil pass0 (pa_cons (pv 0) pa_nil)))) (pw_or1 (pt_cmpR op_gt (pe_callB (call_lenK K) (by rfl) T.b_len (by decide +kernel) (pa_cons (pv 0) pa_nil)) (pe_c_HEAVIEST T) (nomark _))))) (pss_one (ps_ret pe_bl)) pss_nil)
      (pss_one (ps_ret (pe_and (pe_callB (cr_all rfl) (by rfl) T.b_all (by decide +kernel) (pa_cons (pe_lc (own := [("key", 1)]) rfl sc_is_hand.nd (pi_seq (pv 0)) (blkOk_by (own := [("key", 1)]) (N := N_is_hand) (sc := defScope s_is_hand) (by decide +kernel)) (fun _ _ _ _ _ => (pg_name (i := 1) sc_is_hand.nd rfl (.inl rfl))) (fun _ _ _ _ _ => pts_nil) (fun _ _ _ _ _ => (pe_call (ok_is_key T) (hr.mono (by decide)) (by rfl) T.f_is_key.g T.f_is_key.F.kp T.f_is_key.b .nil pass0 (pa_cons (pv 1) pa_nil)))) pa_nil)) (pe_one (pe_cmpR op_le (pe_call (ok_weigh T) (hr.mono (by decide)) (by rfl) T.f_weigh.g T.f_weigh.F.kp T.f_weigh.b .nil pass0 (pa_cons (pv 0) pa_nil)) (pe_c_HEAVIEST T) (nomark _))))))), ?_⟩
  walk_at "rd"
  refine ⟨_, rfl, _, d, rfl, hd, fun H1 s1 => ⟨_, rfl, ?_⟩⟩
  have hh1 := hh.same s1
  obtain ⟨a, xs, rfl, hrow, hp⟩ := hh1
  have hlen : xs.length = ks.length := prd_len hp
  have hfew := hg.few
  rw [hd2]
  refine iteN rfl ⟨_, rfl, len_row hrow ⟨_, _, rfl, rfl, _, rfl, iteN (decide_eq_false (by omega)) ?_⟩⟩
  refine lc_rowN (a := a) (xs := xs) (ys := (ks.map fun _ => true).map V.bl) rfl hrow (by rw [List.length_map, List.length_map]; exact hlen) ?_ (fun _ => rfl) (fun _ _ _ h => h) (fun i x y H' hx hy s2 R hR => ?_) (fun D H' s2 nD hD => ?_)
  · rw [List.length_map, List.length_map]
    exact Nat.lt_of_le_of_lt hfew (by decide)
  · obtain ⟨k, hk, r⟩ := prd_at hp hx
    rw [List.getElem?_map, List.getElem?_map, hk] at hy
    have hy := Option.some.inj hy
    subst hy
    exact ⟨_, rfl, x, k, rfl, r.same s2, hg.ok k (List.mem_of_getElem? hk), fun H4 s4 => hR _ s4⟩
  · refine ⟨D, _, rfl, SqL.of hD, _, rfl, iteY ?_ ⟨_, rfl, _, ks, rfl, (hh.same s1).same s2, hg.ok, hfew, fun H3 s3 => ⟨_, _, rfl, rfl, ?_⟩⟩⟩
    · rw [List.all_map]
      simp
    · have := hg.wt
      show Q (.bl (decide ((hwt ks : Int) ≤ 60))) H3
      rw [decide_eq_true (by omega)]
      exact q _ ((s1.trans s2).trans s3)
def spCheckHand (K : PySem.W.Frag) : Sp := fun vs H Q _ => ∃ hv ks, vs = [hv] ∧ HandAt K H hv ks ∧ GoodH ks ∧ ∀ H', Same H H' → Q .non H'
theorem ok_check_hand (T : Txt K mg w) : FnOk P w K mg base CX0 6 T.f_check_hand.f T.f_check_hand.fd ["thing"] (spCheckHand K) := by
  refine T.f_check_hand.F.ok sc_check_hand (fun vs H Q E h => ?_) (fun cdv A outer s H vs Q E hr h => ?_)
  · obtain ⟨hv, ks, rfl, _⟩ := h
    rfl
  obtain ⟨hv, ks, rfl, hh, hg, q⟩ := h
  refine ⟨_, (pss_one (ps_if (pt_not (pt_val (pe_call (ok_is_hand T) (hr.mono (by decide)) (by rfl) T.f_is_hand.g T.f_is_hand.F.kp T.f_is_hand.b .nil pass0 (pa_cons (pv 0) pa_nil)))) (pss_one ps_never) pss_nil)), ?_⟩
  walk_at "rd"
  exact ⟨_, rfl, _, ks, rfl, hh, hg, fun H1 s1 => ⟨_, rfl, iteN rfl (q _ s1)⟩⟩

/-! ### sheets -/
structure Sh where
  w : List Nat
  n : Nat
  k : List Nat
structure GoodS (s : Sh) : Prop where
  w : Plain s.w
  n : s.n ≤ s.w.length
  k : Plain s.k
  kl : s.k.length ≤ 60
  wl : s.w.length ≤ 1000000
def Sh.vs (s : Sh) : List V := [.str (tx s.w), .int s.n, .str (tx s.k)]
def SheetAt (K : PySem.W.Frag) (H : Hp) (v : V) (s : Sh) : Prop := ∃ a, v = .ref a ∧ Row K H a s.vs
theorem SheetAt.same {K : PySem.W.Frag} {H H' : Hp} {v : V} {s} (e : Same H H') (h : SheetAt K H v s) : SheetAt K H' v s := by
  obtain ⟨a, rfl, h⟩ := h
  exact ⟨a, rfl, h.same e⟩
theorem at_sheet {K : PySem.W.Frag} {H : Hp} {v : V} {s : Sh} (h : SheetAt K H v s) (hs : GoodS s) : ∃ d, At K H v d ∧ isRow d = true := by
  obtain ⟨a, rfl, h⟩ := h
  have hd : Ats K H s.vs [.str s.w, .int s.n, .str s.k] := by
    unfold Ats
    refine ⟨_, _, rfl, by unfold At; exact ⟨rfl, hs.wl⟩, ?_⟩
    unfold Ats
    refine ⟨_, _, rfl, by unfold At; rfl, ?_⟩
    unfold Ats
    refine ⟨_, _, rfl, by unfold At; exact ⟨rfl, Nat.le_trans hs.kl (by decide)⟩, ?_⟩
    unfold Ats
    rfl
  rcases h with h | h
  · exact ⟨.lst _, by unfold At; exact ⟨a, _, rfl, h, hd⟩, rfl⟩
  · exact ⟨.tup _, by unfold At; exact ⟨a, _, rfl, h, hd⟩, rfl⟩
def spIsSheet (K : PySem.W.Frag) : Sp := fun vs H Q _ => ∃ v s, vs = [v] ∧ SheetAt K H v s ∧ GoodS s ∧ ∀ H', Same H H' → Q (.bl true) H'
def spCheckSheet (K : PySem.W.Frag) : Sp := fun vs H Q _ => ∃ v s, vs = [v] ∧ SheetAt K H v s ∧ GoodS s ∧ ∀ H', Same H H' → Q .non H'

def need (b : Bool) : Ky → Option Nat
  | .left n | .rub n => if b then some n else none
  | .right n | .strike n | .copy n | .cut n => if b then none else some n
  | _ => none
def sideL {α : Type} (b : Bool) (s : Sd α) : Nat := if b then s.l.length else s.r.length
def rstep (b : Bool) (x : Sd V × Int) (k : Ky) : Sd V × Int := (step lV k x.1, match need b k with
  | some n => min x.2 ((sideL b x.1 : Nat) - (n : Int))
  | none => x.2)
def rstart (b : Bool) : Sd V × Int := (⟨if b then List.replicate 60 (.str "") else [], if b then [] else List.replicate 60 (.str ""), []⟩, 60)
def rfold (b : Bool) (ks : List Ky) : Sd V × Int := ks.foldl (rstep b) (rstart b)
def sn (b : Bool) : Str := if b then "left" else "right"
abbrev sideTab : List (Str × Str) := [("left", "left"), ("rub", "left"), ("right", "right"), ("strike", "right"), ("copy", "right"), ("cut", "right")]
theorem need_none (b : Bool) (k : Ky) (h : need b k = none) : decide (oV (sideTab.lookup k.kn) = .str (sn b)) = false := by
  cases k with
  | write w => cases b with
    | true => show decide (oV (none : Option Str) = V.str "left") = false; decide
    | false => show decide (oV (none : Option Str) = V.str "right") = false; decide
  | paste => cases b <;> decide
  | left n | rub n => cases b with
    | true => cases h
    | false => show decide (oV (some ("left" : Str)) = V.str "right") = false; decide
  | right n | strike n | copy n | cut n => cases b with
    | false => cases h
    | true => show decide (oV (some ("right" : Str)) = V.str "left") = false; decide
theorem need_some (b : Bool) (k : Ky) (n : Nat) (h : need b k = some n) : decide (oV (sideTab.lookup k.kn) = .str (sn b)) = true ∧ k.vs[1]? = some (.int n) := by
  cases k with
  | write w => cases h
  | paste => cases h
  | left m | rub m => cases b with
    | true =>
      have e := Option.some.inj (show some m = some n from h)
      subst e
      exact ⟨by show decide (oV (some ("left" : Str)) = V.str "left") = true; decide, rfl⟩
    | false => cases h
  | right m | strike m | copy m | cut m => cases b with
    | false =>
      have e := Option.some.inj (show some m = some n from h)
      subst e
      exact ⟨by show decide (oV (some ("right" : Str)) = V.str "right") = true; decide, rfl⟩
    | true => cases h
theorem oV_scal (o : Option Str) (z : Str) : scal (oV o) (.str z) = true := by cases o <;> rfl
theorem rfold_steps (b : Bool) : ∀ (ks : List Ky) (x : Sd V × Int), (ks.foldl (rstep b) x).1 = steps lV ks x.1
  | [], _ => rfl
  | k :: ks, x => rfold_steps b ks (rstep b x k)
/-! ### lengths alone -/
structure Ln where
  l : Nat
  r : Nat
  c : Nat
def Sd.ln {α : Type} (s : Sd α) : Ln := ⟨s.l.length, s.r.length, s.c.length⟩
def lstep : Ky → Ln → Ln
  | .write w, s => ⟨s.l + w.length, s.r, s.c⟩
  | .paste, s => ⟨s.l + s.c, s.r, s.c⟩
  | .left n, s => ⟨s.l - n, s.r + min n s.l, s.c⟩
  | .right n, s => ⟨s.l + min n s.r, s.r - n, s.c⟩
  | .strike n, s => ⟨s.l, s.r - n, s.c⟩
  | .rub n, s => ⟨s.l - n, s.r, s.c⟩
  | .copy n, s => ⟨s.l, s.r, min n s.r⟩
  | .cut n, s => ⟨s.l, s.r - n, min n s.r⟩
theorem step_ln {α : Type} (f : Nat → α) (k : Ky) (s : Sd α) : (step f k s).ln = lstep k s.ln := by
  cases k <;> simp only [step, lstep, Sd.ln, List.length_append, List.length_map, near_len, rest_len]
def lside (b : Bool) (s : Ln) : Nat := if b then s.l else s.r
def lrs (b : Bool) (x : Ln × Int) (k : Ky) : Ln × Int := (lstep k x.1, match need b k with
  | some n => min x.2 ((lside b x.1 : Nat) - (n : Int))
  | none => x.2)
def lfold (b : Bool) (ks : List Ky) (x : Ln × Int) : Ln × Int := ks.foldl (lrs b) x
theorem lrs_of (b : Bool) (x : Sd V × Int) (k : Ky) : ((rstep b x k).1.ln, (rstep b x k).2) = lrs b (x.1.ln, x.2) k := by
  unfold rstep lrs
  rw [step_ln]
  have e : sideL b x.1 = lside b x.1.ln := by cases b <;> rfl
  rw [e]
  try rfl
theorem lfold_of (b : Bool) : ∀ (ks : List Ky) (x : Sd V × Int), ((ks.foldl (rstep b) x).1.ln, (ks.foldl (rstep b) x).2) = lfold b ks (x.1.ln, x.2)
  | [], _ => rfl
  | k :: ks, x => by
    rw [List.foldl_cons, lfold_of b ks (rstep b x k), lrs_of]
    rfl
theorem lfold_le (b : Bool) : ∀ (ks : List Ky) (x : Ln × Int), (lfold b ks x).2 ≤ x.2
  | [], _ => Int.le_refl _
  | k :: ks, x => by
    have h := lfold_le b ks (lrs b x k)
    have h2 : (lrs b x k).2 ≤ x.2 := by
      unfold lrs
      split
      · exact Int.min_le_left _ _
      · exact Int.le_refl _
    exact Int.le_trans h h2
/-! ### lengths in the heap -/
def lnV (s : Ln) : List V := [.int s.l, .int s.r, .int s.c]
def LnAt (K : PySem.W.Frag) (H : Hp) (v : V) (s : Ln) : Prop := ∃ a, v = .ref a ∧ Row K H a (lnV s)
theorem LnAt.same {K : PySem.W.Frag} {H H' : Hp} {v : V} {s} (e : Same H H') (h : LnAt K H v s) : LnAt K H' v s := by
  obtain ⟨a, rfl, h⟩ := h
  exact ⟨a, rfl, h.same e⟩
theorem lnAt_tup {K : PySem.W.Frag} {H : Hp} {a : Addr} {s : Ln} (h : H a = some (.tup (lnV s))) : LnAt K H (.ref a) s := ⟨a, rfl, .inr (SqT.of h)⟩
theorem lnV_eq {s : Ln} {a b c : Int} (h1 : a = (s.l : Int)) (h2 : b = (s.r : Int)) (h3 : c = (s.c : Int)) : ([.int a, .int b, .int c] : List V) = lnV s := by rw [h1, h2, h3]; rfl
abbrev numTab : List (Str × Int) := [("left", 0), ("right", 1), ("clip", 2)]
def spGo (K : PySem.W.Frag) : Sp := fun vs H Q _ => ∃ kv lv k s, vs = [kv, lv] ∧ KeyAt K H kv k ∧ LnAt K H lv s ∧ k.ok ∧ ∀ p, H p = none → Q (.ref p) (upd H p (.tup (lnV (lstep k s))))
theorem ok_go (T : Txt K mg w) : FnOk P w K mg base CX0 1 T.f_go.f T.f_go.fd ["key", "lengths"] (spGo K) := by
  refine T.f_go.F.ok sc_go (fun vs H Q E h => ?_) (fun cdv A outer s H vs Q E hr h => ?_)
  · obtain ⟨kv, lv, k, s, rfl, _⟩ := h
    rfl
  obtain ⟨kv, lv, k, ⟨l, r, c⟩, rfl, ⟨u, rfl, hk⟩, ⟨a, rfl, hl⟩, hok, q⟩ := h
  refine ⟨_, (pss_cons (ps_asg (pv 1) (pg_seq rfl (pgs_cons (pg_name (i := 2) sc_go.nd rfl (.inl rfl)) (pgs_cons (pg_name (i := 3) sc_go.nd rfl (.inl rfl)) (pgs_cons (pg_name (i := 4) sc_go.nd rfl (.inl rfl)) pgs_nil)))))
      (pss_cons (ps_set (i := 5) sc_go.nd rfl (.inl rfl) (pe_ix ix_seq (pv 0) pe_int (fun _ _ => rfl)))
      (pss_cons (ps_if (pt_cmpR op_eq (pv 5) pe_str (nomark _)) (pss_one (ps_ret (pe_tup (pa_cons (pe_op op_add (pv 2) (pe_callB (call_lenK K) (by rfl) T.b_len (by decide +kernel) (pa_cons (pe_ix ix_seq (pv 0) pe_int (fun _ _ => rfl)) pa_nil))) (pa_cons (pv 3) (pa_cons (pv 4) pa_nil)))))) pss_nil)
      (pss_cons (ps_if (pt_cmpR op_eq (pv 5) pe_str (nomark _)) (pss_one (ps_ret (pe_tup (pa_cons (pe_op op_add (pv 2) (pv 4)) (pa_cons (pv 3) (pa_cons (pv 4) pa_nil)))))) pss_nil)
      (pss_cons (ps_set (i := 6) sc_go.nd rfl (.inl rfl) (pe_callB (call_min2 rfl) (by rfl) T.b_min (by decide +kernel) (pa_cons (pe_ix ix_seq (pv 0) pe_int (fun _ _ => rfl)) (pa_cons (pe_ix ix_seq (pv 1) (pe_ix ix_kdict (pe_id T.c_NUMBERS (by rfl) (by decide)) (pe_ix ix_kdict (pe_sd T.c_SIDES (by rfl) (by decide)) (pv 5) (fun _ _ => rfl)) (fun _ _ => rfl)) (fun _ _ => rfl)) pa_nil))))
      (pss_cons (ps_if (pt_cmpR op_eq (pv 5) pe_str (nomark _)) (pss_one (ps_ret (pe_tup (pa_cons (pe_op op_sub (pv 2) (pv 6)) (pa_cons (pe_op op_add (pv 3) (pv 6)) (pa_cons (pv 4) pa_nil)))))) pss_nil)
      (pss_cons (ps_if (pt_cmpR op_eq (pv 5) pe_str (nomark _)) (pss_one (ps_ret (pe_tup (pa_cons (pe_op op_add (pv 2) (pv 6)) (pa_cons (pe_op op_sub (pv 3) (pv 6)) (pa_cons (pv 4) pa_nil)))))) pss_nil)
      (pss_cons (ps_if (pt_cmpR op_eq (pv 5) pe_str (nomark _)) (pss_one (ps_ret (pe_tup (pa_cons (pe_op op_sub (pv 2) (pv 6)) (pa_cons (pv 3) (pa_cons (pv 4) pa_nil)))))) pss_nil)
      (pss_cons (ps_if (pt_cmpR op_eq (pv 5) pe_str (nomark _)) (pss_one (ps_ret (pe_tup (pa_cons (pv 2) (pa_cons (pe_op op_sub (pv 3) (pv 6)) (pa_cons (pv 4) pa_nil)))))) pss_nil)
      (pss_cons (ps_if (pt_cmpR op_eq (pv 5) pe_str (nomark _)) (pss_one (ps_ret (pe_tup (pa_cons (pv 2) (pa_cons (pv 3) (pa_cons (pv 6) pa_nil)))))) pss_nil)
      (pss_one (ps_ret (pe_tup (pa_cons (pv 2) (pa_cons (pe_op op_sub (pv 3) (pv 6)) (pa_cons (pv 6) pa_nil)))))))))))))))), ?_⟩
  walk_at "rd"
  refine ⟨_, rfl, gSeq.row hl rfl ?_⟩
  walk_at "rd"
  refine ⟨_, _, rfl, _, _, rfl, _, _, rfl, rfl, ?_⟩
  have z3 : 3 ≤ sizeLine := by decide
  have hsd : ∀ {z y : Str}, sideTab.lookup z = some y → KDct K w T.c_SIDES.d z (.str y) := fun h => T.c_SIDES.at h
  have hnu : ∀ {z : Str} {y : Int}, numTab.lookup z = some y → KDct K w T.c_NUMBERS.d z (.int y) := fun h => T.c_NUMBERS.at h
  have fin : ∀ {a b c' : Int} {s' : Ln}, lstep k ⟨l, r, c⟩ = s' → a = (s'.l : Int) → b = (s'.r : Int) → c' = (s'.c : Int) → ([V.int a, V.int b, V.int c'].length ≤ sizeLine ∧ ∀ p, H p = none → Q (.ref p) (upd H p (.tup [V.int a, V.int b, V.int c']))) := fun e e1 e2 e3 => ⟨z3, fun p hp => by
    rw [lnV_eq e1 e2 e3, ← e]
    exact q p hp⟩
  cases k with
  | write x =>
    refine ⟨_, rfl, ix_row hk (at_ofA (j := 0) rfl rfl) ⟨_, rfl, rfl, st_yes ?_⟩⟩
    exact ⟨_, rfl, _, rfl, ix_row hk (at_ofA (j := 1) rfl rfl) (len_tx (Nat.le_trans hok.2.1 (by decide)) ⟨_, _, rfl, rfl, _, rfl, _, rfl, fin rfl (by show (l : Int) + (x.length : Int) = ((l + x.length : Nat) : Int); omega) rfl rfl⟩)⟩
  | paste =>
    refine ⟨_, rfl, ix_row hk (at_ofA (j := 0) rfl rfl) ⟨_, rfl, rfl, st_no (by decide) ⟨_, rfl, rfl, st_yes ?_⟩⟩⟩
    exact ⟨_, rfl, _, rfl, _, _, rfl, rfl, _, rfl, _, rfl, fin rfl (by show (l : Int) + (c : Int) = ((l + c : Nat) : Int); omega) rfl rfl⟩
  | left n =>
    refine ⟨_, rfl, ix_row hk (at_ofA (j := 0) rfl rfl) ⟨_, rfl, rfl, st_no (by decide) ⟨_, rfl, rfl, st_no (by decide) ?_⟩⟩⟩
    refine ⟨_, rfl, ix_row hk (at_ofA (j := 1) rfl rfl) ⟨_, rfl, _, rfl, _, _, _, rfl, rfl, hsd rfl, _, _, _, rfl, rfl, hnu rfl, ix_row hl (at_ofA (j := 0) rfl rfl) ⟨_, _, rfl, ?_⟩⟩⟩
    walk_at "rd"
    rw [show (if (l : Int) < (n : Int) then (l : Int) else (n : Int)) = ((min n l : Nat) : Int) by split <;> omega]
    exact ⟨_, rfl, rfl, st_yes ⟨_, rfl, _, rfl, _, _, rfl, rfl, _, rfl, _, rfl, _, _, rfl, rfl, _, rfl, fin rfl (by show (l : Int) - ((min n l : Nat) : Int) = ((l - n : Nat) : Int); omega) (by show (r : Int) + ((min n l : Nat) : Int) = ((r + min n l : Nat) : Int); omega) rfl⟩⟩
  | right n =>
    refine ⟨_, rfl, ix_row hk (at_ofA (j := 0) rfl rfl) ⟨_, rfl, rfl, st_no (by decide) ⟨_, rfl, rfl, st_no (by decide) ?_⟩⟩⟩
    refine ⟨_, rfl, ix_row hk (at_ofA (j := 1) rfl rfl) ⟨_, rfl, _, rfl, _, _, _, rfl, rfl, hsd rfl, _, _, _, rfl, rfl, hnu rfl, ix_row hl (at_ofA (j := 1) rfl rfl) ⟨_, _, rfl, ?_⟩⟩⟩
    walk_at "rd"
    rw [show (if (r : Int) < (n : Int) then (r : Int) else (n : Int)) = ((min n r : Nat) : Int) by split <;> omega]
    exact ⟨_, rfl, rfl, st_no (by decide) ⟨_, rfl, rfl, st_yes ⟨_, rfl, _, rfl, _, _, rfl, rfl, _, rfl, _, rfl, _, _, rfl, rfl, _, rfl, fin rfl (by show (l : Int) + ((min n r : Nat) : Int) = ((l + min n r : Nat) : Int); omega) (by show (r : Int) - ((min n r : Nat) : Int) = ((r - n : Nat) : Int); omega) rfl⟩⟩⟩
  | rub n =>
    refine ⟨_, rfl, ix_row hk (at_ofA (j := 0) rfl rfl) ⟨_, rfl, rfl, st_no (by decide) ⟨_, rfl, rfl, st_no (by decide) ?_⟩⟩⟩
    refine ⟨_, rfl, ix_row hk (at_ofA (j := 1) rfl rfl) ⟨_, rfl, _, rfl, _, _, _, rfl, rfl, hsd rfl, _, _, _, rfl, rfl, hnu rfl, ix_row hl (at_ofA (j := 0) rfl rfl) ⟨_, _, rfl, ?_⟩⟩⟩
    walk_at "rd"
    rw [show (if (l : Int) < (n : Int) then (l : Int) else (n : Int)) = ((min n l : Nat) : Int) by split <;> omega]
    exact ⟨_, rfl, rfl, st_no (by decide) ⟨_, rfl, rfl, st_no (by decide) ⟨_, rfl, rfl, st_yes ⟨_, rfl, _, rfl, _, _, rfl, rfl, _, rfl, _, rfl, fin rfl (by show (l : Int) - ((min n l : Nat) : Int) = ((l - n : Nat) : Int); omega) rfl rfl⟩⟩⟩⟩
  | strike n =>
    refine ⟨_, rfl, ix_row hk (at_ofA (j := 0) rfl rfl) ⟨_, rfl, rfl, st_no (by decide) ⟨_, rfl, rfl, st_no (by decide) ?_⟩⟩⟩
    refine ⟨_, rfl, ix_row hk (at_ofA (j := 1) rfl rfl) ⟨_, rfl, _, rfl, _, _, _, rfl, rfl, hsd rfl, _, _, _, rfl, rfl, hnu rfl, ix_row hl (at_ofA (j := 1) rfl rfl) ⟨_, _, rfl, ?_⟩⟩⟩
    walk_at "rd"
    rw [show (if (r : Int) < (n : Int) then (r : Int) else (n : Int)) = ((min n r : Nat) : Int) by split <;> omega]
    exact ⟨_, rfl, rfl, st_no (by decide) ⟨_, rfl, rfl, st_no (by decide) ⟨_, rfl, rfl, st_no (by decide) ⟨_, rfl, rfl, st_yes ⟨_, rfl, _, rfl, _, rfl, _, _, rfl, rfl, _, rfl, fin rfl rfl (by show (r : Int) - ((min n r : Nat) : Int) = ((r - n : Nat) : Int); omega) rfl⟩⟩⟩⟩⟩
  | copy n =>
    refine ⟨_, rfl, ix_row hk (at_ofA (j := 0) rfl rfl) ⟨_, rfl, rfl, st_no (by decide) ⟨_, rfl, rfl, st_no (by decide) ?_⟩⟩⟩
    refine ⟨_, rfl, ix_row hk (at_ofA (j := 1) rfl rfl) ⟨_, rfl, _, rfl, _, _, _, rfl, rfl, hsd rfl, _, _, _, rfl, rfl, hnu rfl, ix_row hl (at_ofA (j := 1) rfl rfl) ⟨_, _, rfl, ?_⟩⟩⟩
    walk_at "rd"
    rw [show (if (r : Int) < (n : Int) then (r : Int) else (n : Int)) = ((min n r : Nat) : Int) by split <;> omega]
    exact ⟨_, rfl, rfl, st_no (by decide) ⟨_, rfl, rfl, st_no (by decide) ⟨_, rfl, rfl, st_no (by decide) ⟨_, rfl, rfl, st_no (by decide) ⟨_, rfl, rfl, st_yes ⟨_, rfl, _, rfl, _, rfl, fin rfl rfl rfl rfl⟩⟩⟩⟩⟩⟩
  | cut n =>
    refine ⟨_, rfl, ix_row hk (at_ofA (j := 0) rfl rfl) ⟨_, rfl, rfl, st_no (by decide) ⟨_, rfl, rfl, st_no (by decide) ?_⟩⟩⟩
    refine ⟨_, rfl, ix_row hk (at_ofA (j := 1) rfl rfl) ⟨_, rfl, _, rfl, _, _, _, rfl, rfl, hsd rfl, _, _, _, rfl, rfl, hnu rfl, ix_row hl (at_ofA (j := 1) rfl rfl) ⟨_, _, rfl, ?_⟩⟩⟩
    walk_at "rd"
    rw [show (if (r : Int) < (n : Int) then (r : Int) else (n : Int)) = ((min n r : Nat) : Int) by split <;> omega]
    exact ⟨_, rfl, rfl, st_no (by decide) ⟨_, rfl, rfl, st_no (by decide) ⟨_, rfl, rfl, st_no (by decide) ⟨_, rfl, rfl, st_no (by decide) ⟨_, rfl, rfl, st_no (by decide) ⟨_, rfl, _, rfl, _, rfl, _, _, rfl, rfl, _, rfl, fin rfl rfl (by show (r : Int) - ((min n r : Nat) : Int) = ((r - n : Nat) : Int); omega) rfl⟩⟩⟩⟩⟩⟩
def x0 (b : Bool) : Ln := if b then ⟨60, 0, 0⟩ else ⟨0, 60, 0⟩
theorem rfold_lfold (b : Bool) (ks : List Ky) : (rfold b ks).2 = (lfold b ks (x0 b, 60)).2 := by
  have h := congrArg Prod.snd (lfold_of b ks (rstart b))
  have e : ((rstart b).1.ln, (rstart b).2) = (x0 b, (60 : Int)) := by cases b <;> rfl
  rw [e] at h
  exact h
def spNeeded (K : PySem.W.Frag) : Sp := fun vs H Q _ => ∃ (hv lv : V) (b : Bool) (ks : List Ky) (x : Ln), vs = [hv, .str (sn b), lv] ∧ HandAt K H hv ks ∧ GoodH ks ∧ LnAt K H lv x ∧ ∀ H', Same H H' → Q (.int (60 - (lfold b ks (x, 60)).2)) H'
theorem num_sn (b : Bool) : numTab.lookup (sn b) = some (if b then 0 else 1) := by cases b <;> decide
theorem ok_needed (T : Txt K mg w) : FnOk P w K mg base CX0 2 T.f_needed.f T.f_needed.fd ["hand", "side", "lengths"] (spNeeded K) := by
  refine T.f_needed.F.ok sc_needed (fun vs H Q E h => ?_) (fun cdv A outer s H vs Q E hr h => ?_)
  · obtain ⟨hv, lv, b, ks, x, rfl, _⟩ := h
    rfl
  obtain ⟨hv, lv, b, ks, x, rfl, ⟨ah, xs, rfl, hrowH, hp⟩, gh, hl, q⟩ := h
  refine ⟨_, (pss_cons (ps_set (i := 3) sc_needed.nd rfl (.inl rfl) (pe_c_HEAVIEST T))
      (pss_cons (ps_for PassesOwn.never rfl (pi_seq (pv 0)) (pg_name (i := 4) sc_needed.nd rfl (.inl rfl))
        (pss_cons (ps_if (pt_cmpR op_eq (pe_sget T.c_SIDES (pe_sd T.c_SIDES (by rfl) (by decide)) (pe_ix ix_seq (pv 4) pe_int (fun _ _ => rfl)) ⟨by rfl, by rfl, by rfl, by rfl⟩) (pv 1) (nomark _)) (pss_one (ps_set (i := 3) sc_needed.nd rfl (.inl rfl) (pe_callB (call_min2 rfl) (by rfl) T.b_min (by decide +kernel) (pa_cons (pv 3) (pa_cons (pe_op op_sub (pe_ix ix_seq (pv 2) (pe_ix ix_kdict (pe_id T.c_NUMBERS (by rfl) (by decide)) (pv 1) (fun _ _ => rfl)) (fun _ _ => rfl)) (pe_ix ix_seq (pv 4) pe_int (fun _ _ => rfl))) pa_nil))))) pss_nil)
      (pss_one (ps_set (i := 2) sc_needed.nd rfl (.inl rfl) (pe_call (ok_go T) (hr.mono (by decide)) (by rfl) T.f_go.g T.f_go.F.kp T.f_go.b .nil pass0 (pa_cons (pv 4) (pa_cons (pv 2) pa_nil)))))))
      (pss_one (ps_ret (pe_op op_sub (pe_c_HEAVIEST T) (pv 3)))))), ?_⟩
  walk_at "rd"
  have hxl : xs.length = ks.length := prd_len hp
  refine for_row (K := K) (a := ah) (xs := xs) rfl hrowH (Same.refl _) (fun i σ H' => ∃ lv' y, σ = [some (.ref ah), some (.str (sn b)), some lv', some (.int (lfold b (ks.take i) (x, 60)).2), y] ∧ Same H H' ∧ LnAt K H' lv' (lfold b (ks.take i) (x, 60)).1)
    ⟨lv, none, rfl, Same.refl _, hl⟩ (fun i σ H' _ ⟨_, _, _, s9, _⟩ => s9) ?_ ?_
  · rintro i v σ H8 hx ⟨lv', y, rfl, s9, hl9⟩
    obtain ⟨k, hk, rk⟩ := prd_at hp hx
    have hok := gh.ok k (List.mem_of_getElem? hk)
    obtain ⟨u, rfl, hrow⟩ := rk.same s9
    have hst : lfold b (ks.take (i + 1)) (x, 60) = lrs b (lfold b (ks.take i) (x, 60)) k := by
      unfold lfold
      rw [List.take_add_one, hk, List.foldl_append]
      rfl
    generalize hz : lfold b (ks.take i) (x, 60) = z at *
    obtain ⟨al, rfl, hrl⟩ := hl9
    have fin : ∀ (B : L2.St → Hp → Prop) (m : Int), m = (lrs b z k).2 → ∀ σ, σ = [some (.ref ah), some (.str (sn b)), some (.ref al), some (.int m), some (V.ref u)] →
        tAsg (tCall (spGo K) [] E0 (tCons (tVar 4) (tCons (tVar 2) tNil))) (gName 2)
          { nx := fun σ H' => ∃ lv' y, σ = [some (.ref ah), some (.str (sn b)), some lv', some (.int (lfold b (ks.take (i + 1)) (x, 60)).2), y] ∧ Same H H' ∧ LnAt K H' lv' (lfold b (ks.take (i + 1)) (x, 60)).1,
            ct := fun σ H' => ∃ lv' y, σ = [some (.ref ah), some (.str (sn b)), some lv', some (.int (lfold b (ks.take (i + 1)) (x, 60)).2), y] ∧ Same H H' ∧ LnAt K H' lv' (lfold b (ks.take (i + 1)) (x, 60)).1,
            bk := B, rt := Q } σ H8 := by
      rintro B m rfl σ rfl
      walk_at "rd"
      refine ⟨_, rfl, _, rfl, _, _, k, z.1, rfl, ⟨u, rfl, hrow⟩, ⟨al, rfl, hrl⟩, hok, fun p np => ?_⟩
      refine ⟨.ref p, some (V.ref u), ?_, s9.trans (same_upd np), ?_⟩
      · rw [hst]
        rfl
      · rw [hst]
        exact lnAt_tup upd_same
    have hidx : atI (lnV z.1) (if b then 0 else 1) = some (.int (lside b z.1 : Nat)) := by cases b <;> rfl
    walk_at "rd"
    refine ⟨rfl, _, rfl, ix_row hrow (at_ofA (j := 0) rfl (vs_0 k)) ⟨_, rfl, _, rfl, oV_scal _ _, _, rfl, ?_⟩⟩
    cases hn : need b k with
    | none =>
      refine iteN (need_none b k hn) (fin (fun _ _ => True) _ ?_ _ rfl)
      unfold lrs
      rw [hn]
    | some n =>
      obtain ⟨n1, n2⟩ := need_some b k n hn
      refine iteY n1 ?_
      refine ⟨_, rfl, _, rfl, _, rfl, _, _, _, rfl, rfl, T.c_NUMBERS.at (num_sn b), ix_row hrl hidx ⟨_, rfl, ix_row hrow (at_ofA (j := 1) rfl n2) ⟨_, _, rfl, rfl, _, _, rfl, fin (fun _ _ => True) _ ?_ _ rfl⟩⟩⟩
      unfold lrs
      rw [hn]
      show (if ((lside b z.1 : Nat) : Int) - (n : Int) < z.2 then _ else _) = min z.2 _
      split <;> omega
  · rintro σ H8 ⟨lv', y, rfl, s9, hl9⟩
    rw [hxl, List.take_length]
    walk_at "rd"
    exact ⟨_, rfl, _, _, rfl, rfl, q _ s9⟩
def spReach (K : PySem.W.Frag) : Sp := fun vs H Q _ => ∃ (hv : V) (b : Bool) (ks : List Ky), vs = [hv, .str (sn b)] ∧ HandAt K H hv ks ∧ GoodH ks ∧ ∀ H', Same H H' → Q (.int (60 - (rfold b ks).2)) H'
theorem ok_reach (T : Txt K mg w) : FnOk P w K mg base CX0 3 T.f_reach.f T.f_reach.fd ["hand", "side"] (spReach K) := by
  refine T.f_reach.F.ok sc_reach (fun vs H Q E h => ?_) (fun cdv A outer s H vs Q E hr h => ?_)
  · obtain ⟨hv, b, ks, rfl, _⟩ := h
    rfl
  obtain ⟨hv, b, ks, rfl, hh, gh, q⟩ := h
  refine ⟨_, (pss_cons (ps_if (pt_cmpR op_eq (pv 1) pe_str (nomark _)) (pss_one (ps_ret (pe_call (ok_needed T) (hr.mono (by decide)) (by rfl) T.f_needed.g T.f_needed.F.kp T.f_needed.b .nil pass0 (pa_cons (pv 0) (pa_cons (pv 1) (pa_cons (pe_tup (pa_cons (pe_c_HEAVIEST T) (pa_cons pe_int (pa_cons pe_int pa_nil)))) pa_nil)))))) pss_nil)
      (pss_one (ps_ret (pe_call (ok_needed T) (hr.mono (by decide)) (by rfl) T.f_needed.g T.f_needed.F.kp T.f_needed.b .nil pass0 (pa_cons (pv 0) (pa_cons (pv 1) (pa_cons (pe_tup (pa_cons pe_int (pa_cons (pe_c_HEAVIEST T) (pa_cons pe_int pa_nil)))) pa_nil))))))), ?_⟩
  walk_at "rd"
  rw [rfold_lfold] at q
  cases b with
  | true =>
    refine ⟨_, rfl, rfl, st_yes ⟨_, rfl, _, rfl, by show 3 ≤ sizeLine; decide, fun t nt => ?_⟩⟩
    exact ⟨hv, _, true, ks, x0 true, rfl, hh.same (same_upd nt), gh, lnAt_tup upd_same, fun H' s1 => q _ ((same_upd nt).trans s1)⟩
  | false =>
    refine ⟨_, rfl, rfl, st_no (by decide) ⟨_, rfl, _, rfl, by show 3 ≤ sizeLine; decide, fun t nt => ?_⟩⟩
    exact ⟨hv, _, false, ks, x0 false, rfl, hh.same (same_upd nt), gh, lnAt_tup upd_same, fun H' s1 => q _ ((same_upd nt).trans s1)⟩
def spReaches (K : PySem.W.Frag) : Sp := fun vs H Q _ => ∃ (hv : V) (ks : List Ky), vs = [hv] ∧ HandAt K H hv ks ∧ GoodH ks ∧ ∀ p H', Same H H' → H' p = some (.tup [.int (60 - (rfold true ks).2), .int (60 - (rfold false ks).2)]) → Q (.ref p) H'
theorem ok_reaches (T : Txt K mg w) : FnOk P w K mg base CX0 7 T.f_reaches.f T.f_reaches.fd ["hand"] (spReaches K) := by
  refine T.f_reaches.F.ok sc_reaches (fun vs H Q E h => ?_) (fun cdv A outer s H vs Q E hr h => ?_)
  · obtain ⟨hv, ks, rfl, _⟩ := h
    rfl
  obtain ⟨hv, ks, rfl, hh, gh, q⟩ := h
  refine ⟨_, (pss_cons (ps_expr (pe_call (ok_check_hand T) (hr.mono (by decide)) (by rfl) T.f_check_hand.g T.f_check_hand.F.kp T.f_check_hand.b .nil pass0 (pa_cons (pv 0) pa_nil)))
      (pss_one (ps_ret (pe_tup (pa_cons (pe_call (ok_reach T) (hr.mono (by decide)) (by rfl) T.f_reach.g T.f_reach.F.kp T.f_reach.b .nil pass0 (pa_cons (pv 0) (pa_cons pe_str pa_nil))) (pa_cons (pe_call (ok_reach T) (hr.mono (by decide)) (by rfl) T.f_reach.g T.f_reach.F.kp T.f_reach.b .nil pass0 (pa_cons (pv 0) (pa_cons pe_str pa_nil))) pa_nil)))))), ?_⟩
  walk_at "rd"
  refine ⟨_, rfl, hv, ks, rfl, hh, gh, fun H1 s1 => ⟨_, rfl, hv, true, ks, rfl, hh.same s1, gh, fun H2 s2 => ⟨_, rfl, hv, false, ks, rfl, (hh.same s1).same s2, gh, fun H3 s3 => ?_⟩⟩⟩
  exact ⟨by show 2 ≤ sizeLine; decide, fun p np => q p _ (((s1.trans s2).trans s3).trans (same_upd np)) upd_same⟩

/-! ## a law's reel: what is drawn -/
def MR : Int := 170141183460469231731687303715884105727
/-- the reel's two lists -/
def Two (H : Hp) (p g td : Addr) : Prop := ∃ c s : V, H p = some (.lst [.ref g, .ref td, c, s])
def Rel (H : Hp) (p : Addr) : Prop := ∃ (g td : Addr) (gs ts : List Int) (c s : Int), H p = some (.lst [.ref g, .ref td, .int c, .int s]) ∧ H g = some (.lst (gs.map V.int)) ∧ H td = some (.lst (ts.map V.int)) ∧ g ≠ p ∧ td ≠ p ∧ ts ≠ [] ∧ ts.length ≤ 64 ∧ gs.length ≤ 63 ∧ (∀ t ∈ ts, 0 ≤ t ∧ t ≤ 1000003) ∧ 0 ≤ c ∧ 0 ≤ s ∧ s < MR
/-- neither the reel nor one of its lists -/
def Nin (H : Hp) (p o : Addr) : Prop := o ≠ p ∧ ∀ g td, Two H p g td → o ≠ g ∧ o ≠ td
structure Gr (p : Addr) (H H' : Hp) : Prop where
  keep : ∀ b o, b ≠ p → H b = some o → H' b = some o
  rel : Rel H' p
  nin : ∀ b, H b ≠ none → Nin H p b → Nin H' p b
theorem Rel.two {H : Hp} {p : Addr} (h : Rel H p) : ∃ g td, Two H p g td ∧ (∃ o, H g = some o) ∧ ∃ o, H td = some o := by
  obtain ⟨g, td, gs, ts, c, s, h1, h2, h3, _⟩ := h
  exact ⟨g, td, ⟨_, _, h1⟩, ⟨_, h2⟩, ⟨_, h3⟩⟩
theorem Two.uniq {H : Hp} {p g td g2 td2 : Addr} (h : Two H p g td) (h2 : Two H p g2 td2) : g = g2 ∧ td = td2 := by
  obtain ⟨c, s, h⟩ := h
  obtain ⟨c2, s2, h2⟩ := h2
  rw [h] at h2
  injection h2 with e
  injection e with e
  injection e with e1 e
  injection e with e2 e
  injection e1 with e1
  injection e2 with e2
  exact ⟨e1, e2⟩
theorem Rel.ne {p b : Addr} {H : Hp} (h : Rel H p) (hb : H b = none) : b ≠ p := fun z => by
  obtain ⟨g, td, gs, ts, c, s, h1, _⟩ := h
  rw [z, h1] at hb
  cases hb
theorem Rel.nin {p b : Addr} {H : Hp} (h : Rel H p) (hb : H b = none) : Nin H p b := by
  refine ⟨h.ne hb, fun g td ht => ?_⟩
  obtain ⟨g2, td2, h2, ⟨o1, h3⟩, ⟨o2, h4⟩⟩ := h.two
  obtain ⟨rfl, rfl⟩ := ht.uniq h2
  exact ⟨fun z => (by rw [z, h3] at hb; cases hb), fun z => (by rw [z, h4] at hb; cases hb)⟩
theorem Gr.trans {p : Addr} {H H1 H2 : Hp} (a : Gr p H H1) (b : Gr p H1 H2) : Gr p H H2 :=
  ⟨fun c o hc h => b.keep c o hc (a.keep c o hc h), b.rel, fun c hc hn => b.nin c (fun z => by
    cases e : H c with
    | none => exact hc e
    | some o => rw [a.keep c o hn.1 e] at z; cases z) (a.nin c hc hn)⟩
theorem Rel.same {p : Addr} {H H' : Hp} (h : Rel H p) (e : Same H H') : Rel H' p := by
  obtain ⟨g, td, gs, ts, c, s, h1, h2, h3, h4⟩ := h
  exact ⟨g, td, gs, ts, c, s, e _ _ h1, e _ _ h2, e _ _ h3, h4⟩
theorem Gr.of_same {p : Addr} {H H' : Hp} (h : Rel H p) (e : Same H H') : Gr p H H' := ⟨fun b o _ k => e b o k, h.same e, fun b _ hn => ⟨hn.1, fun g td ht => by
  obtain ⟨g2, td2, h2, _⟩ := h.two
  obtain ⟨c, s, h3⟩ := id h2
  obtain ⟨rfl, rfl⟩ := ht.uniq ⟨c, s, e _ _ h3⟩
  exact hn.2 _ _ h2⟩⟩
theorem Gr.refl {p : Addr} {H : Hp} (h : Rel H p) : Gr p H H := .of_same h (Same.refl _)
theorem Gr.same {p : Addr} {H H1 H2 : Hp} (a : Gr p H H1) (e : Same H1 H2) : Gr p H H2 := a.trans (.of_same a.rel e)
theorem gr_new {p t : Addr} {H H' : Hp} {o : HO} (g : Gr p H H') (nt : H' t = none) : Gr p H (upd H' t o) := g.same (same_upd nt)
/-- an own object changed -/
theorem gr_mut {p o : Addr} {H H' : Hp} {x : HO} (g : Gr p H H') (no : H o = none) (hn : Nin H' p o) : Gr p H (upd H' o x) := by
  obtain ⟨g1, td, gs, ts, c, s, h1, h2, h3, h4⟩ := g.rel
  obtain ⟨n1, n2⟩ := hn.2 g1 td ⟨_, _, h1⟩
  refine ⟨fun b u hb e => by rw [upd_ne (ne_of_none e no)]; exact g.keep b u hb e, ⟨g1, td, gs, ts, c, s, by rw [upd_ne hn.1.symm]; exact h1, by rw [upd_ne n1.symm]; exact h2, by rw [upd_ne n2.symm]; exact h3, h4⟩, fun b hb hbn => ?_⟩
  have := g.nin b hb hbn
  refine ⟨this.1, fun g2 td2 ⟨c2, s2, ht⟩ => ?_⟩
  rw [upd_ne hn.1.symm] at ht
  exact this.2 g2 td2 ⟨c2, s2, ht⟩
theorem Gr.fr {p b : Addr} {H H' : Hp} (g : Gr p H H') (hb : b ≠ p) (h : H' b = none) : H b = none := by
  cases e : H b with
  | none => rfl
  | some o =>
    rw [g.keep b o hb e] at h
    cases h
theorem ninv {p o : Addr} {H : Hp} {x : HO} (hn : Nin H p o) : ∀ b, Nin H p b → Nin (upd H o x) p b := fun b h => ⟨h.1, fun g td ⟨c, s, ht⟩ => by
  rw [upd_ne hn.1.symm] at ht
  exact h.2 g td ⟨c, s, ht⟩⟩
theorem cut63 (xs : List V) (h : xs.length ≤ 63) : cutV xs none (some 63) = xs := by
  unfold cutV
  rw [HT.sIx_none, show HT.sIx xs.length xs.length (some 63) = min 63 xs.length from HT.sIx_nat xs.length xs.length 63, List.drop_zero, Nat.sub_zero, Nat.min_eq_right h, List.take_length]
theorem dp_ints {K : PySem.W.Frag} {H : Hp} {a : Addr} {gs : List Int} (h : H a = some (.lst (gs.map V.int))) : Dp K H (.ref a) (.list (gs.map PyData.int)) := by
  refine .lst (SqL.of h) ?_
  clear h
  induction gs with
  | nil => exact .nil
  | cons g gs ih => exact .cons (.int g) ih
theorem ints_lay : ∀ gs : List Int, PyData.canLayAll0 (gs.map PyData.int) = true
  | [] => rfl
  | g :: gs => by
    rw [List.map_cons]
    show (true && PyData.canLayAll0 (gs.map PyData.int)) = true
    rw [ints_lay gs]
    rfl
theorem ints_depth : ∀ gs : List Int, PyData.depthAll (gs.map PyData.int) ≤ 1
  | [] => by decide
  | g :: gs => by
    rw [List.map_cons]
    show max (PyData.depth (.int g)) (PyData.depthAll (gs.map PyData.int)) ≤ 1
    have := ints_depth gs
    have : PyData.depth (.int g) ≤ 1 := by simp [PyData.depth]
    omega
theorem ne_ints {K : PySem.W.Frag} {H : Hp} {a e : Addr} {gs : List Int} {Q : VK} (h : H a = some (.lst (gs.map V.int))) (he : H e = some (.lst [])) (q : Q (.bl (!decide (gs = []))) H) : rNeD K (.ref a) (.ref e) H Q := by
  have hd : SeqAt.shaped (.list (gs.map PyData.int)) = true := by
    show (PyData.canLayAll0 (gs.map PyData.int) && decide (PyData.depthAll (gs.map PyData.int) + 1 ≤ 64)) = true
    have := ints_depth gs
    rw [ints_lay gs, decide_eq_true (by omega)]
    rfl
  refine ⟨_, .list [], dp_ints h, .lst (SqL.of he) .nil, hd, rfl, ?_⟩
  have : PyData.eqv (.list (gs.map PyData.int)) (.list []) = decide (gs = []) := by
    cases gs with
    | nil => simp [PyData.eqv, PyData.eqvAll]
    | cons g gs => simp [PyData.eqv, PyData.eqvAll]
  rw [this]
  exact q
theorem cut1_ (xs : List V) : cutV xs (some 1) none = xs.drop 1 := by
  unfold cutV
  rw [HT.sIx_none, show HT.sIx xs.length 0 (some 1) = min 1 xs.length from HT.sIx_nat xs.length 0 1]
  cases xs with
  | nil => rfl
  | cons x xs => rw [show min 1 (x :: xs).length = 1 by simp, List.take_of_length_le (by rw [List.length_drop]; exact Nat.le_refl _)]
def spDrawR : Sp := fun vs H Q _ => ∃ (p : Addr) (m : Int), vs = [.ref p, .int m] ∧ Rel H p ∧ 0 < m ∧ m.natAbs < 2 ^ 250 ∧ ∀ H' r, Gr p H H' → 0 ≤ r → r < m → Q (.int r) H'
theorem ok__law_draw (T : Txt K mg w) : FnOk P w K mg base CX0 1 T.f__law_draw.f T.f__law_draw.fd ["reel", "many"] spDrawR := by
  refine T.f__law_draw.F.ok sc__law_draw (fun vs H Q E h => ?_) (fun cdv A outer s H vs Q E hr h => ?_)
  · obtain ⟨p, m, rfl, _⟩ := h
    rfl
  obtain ⟨p, m, rfl, hrel, hm, hm2, q⟩ := h
  obtain ⟨g, td, gs, ts, c, S, hp, hg, htd, hgp, htp, hts, htl, hgl, htr, hc, hS, hS2⟩ := id hrel
  refine ⟨_, (pss_cons (ps_if (pt_cmpR (op_neD hr.units) (pe_ix ix_seq (pv 0) pe_int (fun _ _ => rfl)) (pe_lst pa_nil) (nomark _)) (pss_cons (ps_set (i := 2) sc__law_draw.nd rfl (.inl rfl) (pe_ix ix_seq (pe_ix ix_seq (pv 0) pe_int (fun _ _ => rfl)) pe_int (fun _ _ => rfl)))
      (pss_cons (ps_asg (pe_op op_cat (pe_op op_rep (pe_lst (pa_cons (pe_op op_fdivW (pv 2) (pv 1)) pa_nil)) (pe_callTy call_int1 (by rfl) T.b_int (by decide +kernel) (pa_cons (pe_cmpR op_ge (pv 2) (pv 1) (nomark _)) pa_nil))) (pe_slice sl_list (pe_ix ix_seq (pv 0) pe_int (fun _ _ => rfl)) (po_some pe_int) po_none)) (pg_sub (pv 0) pe_int set_list))
      (pss_one (ps_ret (pe_op op_mod (pv 2) (pv 1)))))) pss_nil)
      (pss_cons (ps_asg (pe_op op_add (pe_ix ix_seq (pv 0) pe_int (fun _ _ => rfl)) pe_int) (pg_sub (pv 0) pe_int set_list))
      (pss_cons (ps_set (i := 3) sc__law_draw.nd rfl (.inl rfl) (pe_ix ix_seq (pe_ix ix_seq (pv 0) pe_int (fun _ _ => rfl)) (pe_op op_mod (pe_ix ix_seq (pv 0) pe_int (fun _ _ => rfl)) (pe_callB (call_lenK K) (by rfl) T.b_len (by decide +kernel) (pa_cons (pe_ix ix_seq (pv 0) pe_int (fun _ _ => rfl)) pa_nil))) (fun _ _ => rfl)))
      (pss_cons (ps_set (i := 4) sc__law_draw.nd rfl (.inl rfl) (pe_op op_add (pe_op op_add (pe_op op_mulW (pe_ix ix_seq (pv 0) pe_int (fun _ _ => rfl)) (pe_ix ix_seq (pv 0) pe_int (fun _ _ => rfl))) (pe_op op_mul (pe_op op_add (pv 3) pe_int) pe_int)) (pe_op op_mul (pe_ix ix_seq (pv 0) pe_int (fun _ _ => rfl)) pe_int)))
      (pss_cons (ps_asg (pe_op op_mod (pv 4) (pe_op op_sub (pe_op op_mul (pe_op op_pow pe_int pe_int) (pe_op op_pow pe_int pe_int)) pe_int)) (pg_sub (pv 0) pe_int set_list))
      (pss_one (ps_ret (pe_op op_mod (pe_op op_fdivW (pe_ix ix_seq (pv 0) pe_int (fun _ _ => rfl)) (pe_op op_pow pe_int pe_int)) (pv 1))))))))), ?_⟩
  walk_at "rd"
  refine ⟨_, rfl, ix_lst hp (at_of (j := 0) rfl rfl) ⟨by decide, fun e ne => ?_⟩⟩
  have se := same_upd (o := .lst []) ne
  have hp1 := se _ _ hp
  have hg1 := se _ _ hg
  have htd1 := se _ _ htd
  have ke := upd_same (H := H) (a := e) (o := .lst [])
  have g1 : Gr p H (upd H e (.lst [])) := .of_same hrel se
  generalize upd H e (.lst []) = H1 at *
  refine ne_ints hg1 ke ⟨_, rfl, ?_⟩
  cases gs with
  | cons f gs =>
    refine iteY rfl ?_
    refine ⟨_, rfl, ix_lst hp1 (at_of (j := 0) rfl rfl) (ix_lst hg1 (at_of (j := 0) rfl rfl) ?_)⟩
    refine ⟨_, rfl, _, rfl, _, _, rfl, rfl, wide_div hm hm2 (by decide) (by decide), by show 1 ≤ sizeLine; decide, fun l1 n1 => ⟨_, rfl, _, rfl, _, _, rfl, rfl, .inr ⟨_, rfl, ?_⟩⟩⟩
    have s1 := same_upd (o := .lst [V.int (f / m)]) n1
    have k1 := upd_same (H := H1) (a := l1) (o := .lst [V.int (f / m)])
    have g2 := gr_new (o := .lst [V.int (f / m)]) g1 n1
    have hp2 := s1 _ _ hp1
    have hg2 := s1 _ _ hg1
    have htd2 := s1 _ _ htd1
    obtain ⟨b, hb⟩ : ∃ b : Nat, b ≤ 1 ∧ (if decide (m ≤ f) = true then (1 : Int) else 0) = (b : Int) := by
      cases decide (m ≤ f)
      · exact ⟨0, by decide, rfl⟩
      · exact ⟨1, by decide, rfl⟩
    obtain ⟨hb1, hb2⟩ := hb
    rw [hb2]
    show rRep _ _ (upd H1 l1 (.lst [V.int (f / m)])) _
    generalize upd H1 l1 (.lst [V.int (f / m)]) = H2 at *
    refine ⟨l1, _, _, rfl, rfl, k1, by omega, by omega, Nat.le_trans (show 1 * ((b : Int)).toNat ≤ 1 by omega) (by decide), fun l2 n2 => ?_⟩
    have hl2 : ∃ es : List Int, (List.replicate ((b : Int)).toNat [V.int (f / m)]).flatten = es.map V.int ∧ es.length ≤ 1 := by
      rw [Int.toNat_natCast]
      have : b = 0 ∨ b = 1 := by omega
      rcases this with rfl | rfl
      · exact ⟨[], rfl, by decide⟩
      · exact ⟨[f / m], rfl, Nat.le_refl _⟩
    obtain ⟨es, hes, hesl⟩ := hl2
    rw [hes]
    have s2 := same_upd (o := .lst (es.map V.int)) n2
    have k2 := upd_same (H := H2) (a := l2) (o := .lst (es.map V.int))
    have g3 := gr_new (o := .lst (es.map V.int)) g2 n2
    have hp3 := s2 _ _ hp2
    have hg3 := s2 _ _ hg2
    have htd3 := s2 _ _ htd2
    generalize upd H2 l2 (.lst (es.map V.int)) = H3 at *
    refine ⟨_, rfl, ix_lst hp3 (at_of (j := 0) rfl rfl) ⟨_, rfl, g, _, rfl, SqL.of hg3, fun l3 n3 => ?_⟩⟩
    rw [cut1_]
    have e3 : (List.map V.int (f :: gs)).drop 1 = gs.map V.int := rfl
    rw [e3]
    have s3 := same_upd (o := .lst (gs.map V.int)) n3
    have k3 := upd_same (H := H3) (a := l3) (o := .lst (gs.map V.int))
    have g4 := gr_new (o := .lst (gs.map V.int)) g3 n3
    have hp4 := s3 _ _ hp3
    have htd4 := s3 _ _ htd3
    have k2 := s3 _ _ k2
    generalize upd H3 l3 (.lst (gs.map V.int)) = H4 at *
    have hgl' : gs.length ≤ 62 := by simpa using hgl
    refine ⟨l2, l3, _, _, rfl, rfl, k2, k3, Nat.le_trans (show (es.map V.int).length + (gs.map V.int).length ≤ 64 by rw [List.length_map, List.length_map]; omega) (by decide), fun l4 n4 => ?_⟩
    rw [← List.map_append]
    have s4 := same_upd (o := .lst ((es ++ gs).map V.int)) n4
    have k4 := upd_same (H := H4) (a := l4) (o := .lst ((es ++ gs).map V.int))
    have g5 := gr_new (o := .lst ((es ++ gs).map V.int)) g4 n4
    have hp5 := s4 _ _ hp4
    have htd5 := s4 _ _ htd4
    have n4p := g4.rel.ne n4
    have n4H : H l4 = none := g4.fr n4p n4
    generalize upd H4 l4 (.lst ((es ++ gs).map V.int)) = H5 at *
    dsimp only [gSub]
    walk_at "rd"
    refine ⟨_, rfl, p, _, 0, 0, rfl, rfl, hp5, rfl, _, rfl, _, rfl, _, _, rfl, rfl, hm, q _ _ ⟨fun b o hb e => by rw [upd_ne hb]; exact g5.keep b o hb e, ⟨l4, td, es ++ gs, ts, c, S, upd_same, by rw [upd_ne n4p]; exact k4, by rw [upd_ne htp]; exact htd5, n4p, htp, hts, htl, by rw [List.length_append]; omega, htr, hc, hS, hS2⟩, fun b hb hn => ⟨hn.1, fun g2 td2 ⟨c2, s2, ht⟩ => ?_⟩⟩ (Int.emod_nonneg _ (by omega)) (Int.emod_lt_of_pos _ hm)⟩
    rw [upd_same] at ht
    injection ht with e
    injection e with e
    injection e with e1 e
    injection e with e2 e
    injection e1 with e1
    injection e2 with e2
    subst e1 e2
    exact ⟨fun z => hb (by rw [z]; exact n4H), (hn.2 _ _ ⟨_, _, hp⟩).2⟩
  | nil =>
    refine iteN rfl ?_
    have hpw : ∀ Sx : V, (upd (upd H1 p (.lst [.ref g, .ref td, .int (c + 1), .int S])) p (.lst [.ref g, .ref td, .int (c + 1), Sx])) p = some (.lst [.ref g, .ref td, .int (c + 1), Sx]) := fun _ => upd_same
    refine ⟨_, rfl, ix_lst hp1 (at_of (j := 2) rfl rfl) ⟨_, _, rfl, rfl, ?_⟩⟩
    dsimp only [gSub]
    walk_at "rd"
    refine ⟨_, rfl, p, _, 2, 2, rfl, rfl, hp1, rfl, ?_⟩
    show (∃ v, _)
    have hp2 : (upd H1 p (.lst [.ref g, .ref td, .int (c + 1), .int S])) p = some (.lst [.ref g, .ref td, .int (c + 1), .int S]) := upd_same
    have htd2 : (upd H1 p (.lst [.ref g, .ref td, .int (c + 1), .int S])) td = some (.lst (ts.map V.int)) := by rw [upd_ne htp]; exact htd1
    have hk2 : ∀ b o, b ≠ p → H1 b = some o → (upd H1 p (.lst [.ref g, .ref td, .int (c + 1), .int S])) b = some o := fun b o hb e => by rw [upd_ne hb]; exact e
    obtain ⟨ix, hix, hixl⟩ : ∃ ix : Nat, (c + 1) % ((ts.map V.int).length : Int) = (ix : Int) ∧ ix < ts.length := by
      rw [List.length_map]
      have hl : 0 < ts.length := List.length_pos_iff.mpr hts
      have h1 : 0 ≤ (c + 1) % (ts.length : Int) := Int.emod_nonneg _ (by omega)
      have h2 : (c + 1) % (ts.length : Int) < (ts.length : Int) := Int.emod_lt_of_pos _ (by omega)
      exact ⟨((c + 1) % (ts.length : Int)).toNat, by omega, by omega⟩
    obtain ⟨t, ht⟩ : ∃ t, ts[ix]? = some t := ⟨_, List.getElem?_eq_getElem hixl⟩
    have hl0 : (0 : Int) < ((ts.map V.int).length : Int) := by rw [List.length_map]; have := List.length_pos_iff.mpr hts; omega
    have htv : (ts.map V.int)[ix]? = some (.int t) := by rw [List.getElem?_map, ht]; rfl
    have hSb : S.natAbs < 2 ^ 127 := by
      have : S < 170141183460469231731687303715884105727 := hS2
      have e : (2 : Nat) ^ 127 = 170141183460469231731687303715884105728 := by decide +kernel
      rw [e]
      omega
    refine ⟨_, rfl, ix_lst hp2 (at_of (j := 1) rfl rfl) ⟨_, rfl, ix_lst hp2 (at_of (j := 2) rfl rfl) ⟨_, rfl, ix_lst hp2 (at_of (j := 1) rfl rfl) (len_row (.inl (SqL.of htd2)) ⟨_, _, rfl, rfl, hl0, ?_⟩)⟩⟩⟩
    show rIx _ (V.ref td) (V.int ((c + 1) % ((ts.map V.int).length : Int))) _ _
    rw [hix]
    refine ix_lst htd2 (at_ofA (j := ix) rfl htv) ?_
    refine ⟨_, rfl, ix_lst hp2 (at_of (j := 3) rfl rfl) ⟨_, rfl, ix_lst hp2 (at_of (j := 3) rfl rfl) ⟨_, _, rfl, rfl, wide_mul hSb hSb (by decide) (by decide) (by decide), ?_⟩⟩⟩
    refine ⟨_, rfl, _, _, rfl, rfl, _, _, rfl, rfl, .inr (by constructor <;> decide), _, _, rfl, rfl, ?_⟩
    refine ⟨_, rfl, ix_lst hp2 (at_of (j := 2) rfl rfl) ⟨_, _, rfl, rfl, .inr (by constructor <;> decide), _, _, rfl, rfl, ?_⟩⟩
    refine ⟨_, rfl, _, _, rfl, rfl, ⟨by decide, by decide, by decide⟩, _, _, rfl, rfl, ⟨by decide, by decide, by decide⟩, _, _, rfl, rfl, ?_⟩
    have eM : ((2 : Int) ^ Int.toNat 64 * 2 ^ Int.toNat 63 - 1) = MR := by decide +kernel
    refine ⟨.inr (by constructor <;> decide +kernel), _, _, rfl, rfl, _, _, rfl, rfl, ?_, ?_⟩
    · show (0 : Int) < (2 : Int) ^ Int.toNat 64 * 2 ^ Int.toNat 63 - 1
      rw [eM]
      decide
    show gSub (tVar 0) (tC (V.int 3)) rSetL (V.int ((S * S + (t + 7) * 69621 + (c + 1) * 1000003) % ((2 : Int) ^ Int.toNat 64 * 2 ^ Int.toNat 63 - 1))) _ (upd H1 p (.lst [.ref g, .ref td, .int (c + 1), .int S])) _
    rw [eM]
    have hz0 : 0 ≤ (S * S + (t + 7) * 69621 + (c + 1) * 1000003) % MR := Int.emod_nonneg _ (by decide)
    have hz1 : (S * S + (t + 7) * 69621 + (c + 1) * 1000003) % MR < MR := Int.emod_lt_of_pos _ (by decide)
    generalize (S * S + (t + 7) * 69621 + (c + 1) * 1000003) % MR = Z at *
    dsimp only [gSub]
    refine ⟨_, rfl, p, _, 3, 3, rfl, rfl, hp2, rfl, ?_⟩
    walk_at "rd"
    rw [upd_upd]
    show (∃ v, _)
    have hp3 : (upd H1 p (.lst [.ref g, .ref td, .int (c + 1), .int Z])) p = some (.lst [.ref g, .ref td, .int (c + 1), .int Z]) := upd_same
    refine ⟨_, rfl, ix_lst hp3 (at_of (j := 3) rfl rfl) ⟨_, _, rfl, rfl, ⟨by decide, by decide, by decide⟩, _, _, rfl, rfl, wide_div (b := 41) (by decide +kernel) (by decide +kernel) (by decide) (by decide), _, rfl, _, _, rfl, rfl, hm, ?_⟩⟩
    refine q _ _ ⟨fun b o hb e => by rw [upd_ne hb]; exact se b o e, ⟨g, td, [], ts, c + 1, Z, upd_same, by rw [upd_ne hgp]; exact hg1, by rw [upd_ne htp]; exact htd1, hgp, htp, hts, htl, by decide, htr, by omega, hz0, hz1⟩, fun b hb hn => ⟨hn.1, fun g2 td2 ⟨c2, s2, ht⟩ => ?_⟩⟩ (Int.emod_nonneg _ (by omega)) (Int.emod_lt_of_pos _ hm)
    rw [upd_same] at ht
    injection ht with e
    injection e with e
    injection e with e1 e
    injection e with e2 e
    injection e1 with e1
    injection e2 with e2
    subst e1 e2
    exact hn.2 _ _ ⟨_, _, hp⟩
def spReel (K : PySem.W.Frag) : Sp := fun vs H Q _ => ∃ (a : Addr) (ns : List Int), vs = [.ref a] ∧ SqL K H a (ns.map V.int) ∧ ns.length ≤ 63 ∧ ∀ H' p, Same H H' → H p = none → Rel H' p → Q (.ref p) H'
theorem ok__law_reel (T : Txt K mg w) : FnOk P w K mg base CX0 1 T.f__law_reel.f T.f__law_reel.fd ["script"] (spReel K) := by
  refine T.f__law_reel.F.ok sc__law_reel (fun vs H Q E h => ?_) (fun cdv A outer s H vs Q E hr h => ?_)
  · obtain ⟨a, ns, rfl, _⟩ := h
    rfl
  obtain ⟨a, ns, rfl, hs, hl, q⟩ := h
  refine ⟨_, (pss_cons (ps_set (i := 1) sc__law_reel.nd rfl (.inl rfl) (pe_op op_pow pe_int pe_int))
      (pss_cons (ps_for PassesOwn.never rfl (pi_list (pe_slice sl_list (pv 0) po_none (po_some pe_int))) (pg_name (i := 2) sc__law_reel.nd rfl (.inl rfl))
        (pss_one (ps_set (i := 1) sc__law_reel.nd rfl (.inl rfl) (pe_op op_mod (pe_op op_add (pe_op op_add (pe_op op_mulW (pv 1) (pv 1)) (pe_op op_mod (pv 2) pe_int)) pe_int) (pe_op op_sub (pe_op op_mul (pe_op op_pow pe_int pe_int) (pe_op op_pow pe_int pe_int)) pe_int)))))
      (pss_cons (ps_setLc (i := 3) (own := [("cell", 2)]) rfl sc__law_reel.nd rfl rfl (sw_true rfl rfl rfl (by decide +kernel)) (pi_list (pe_slice sl_list (pv 0) po_none (po_some pe_int))) (blkOk_by (own := [("cell", 2)]) (N := N__law_reel) (sc := defScope s__law_reel) (by decide +kernel)) (fun _ _ _ _ _ => (pg_name (i := 2) sc__law_reel.nd rfl (.inl rfl))) (fun _ _ _ _ _ => (pts_one (pt_cmpR op_ge (pv 2) (pe_op op_pow pe_int pe_int) (nomark _)))) (fun _ _ _ _ _ => (pe_op op_sub (pv 2) (pe_op op_pow pe_int pe_int))))
      (pss_one (ps_ret (pe_lst (pa_cons (pv 3) (pa_cons (pe_op op_cat (pe_lc (own := [("cell", 2)]) rfl sc__law_reel.nd (pi_list (pe_slice sl_list (pv 0) po_none (po_some pe_int))) (blkOk_by (own := [("cell", 2)]) (N := N__law_reel) (sc := defScope s__law_reel) (by decide +kernel)) (fun _ _ _ _ _ => (pg_name (i := 2) sc__law_reel.nd rfl (.inl rfl))) (fun _ _ _ _ _ => pts_nil) (fun _ _ _ _ _ => (pe_op op_mod (pv 2) pe_int))) (pe_lst (pa_cons pe_int pa_nil))) (pa_cons pe_int (pa_cons (pv 1) pa_nil)))))))))), ?_⟩
  walk_at "rd"
  have hl63 : (ns.map V.int).length ≤ 63 := by rw [List.length_map]; exact hl
  refine ⟨_, _, rfl, rfl, ⟨by decide, by decide, by decide⟩, fr_list ?_⟩
  walk_at "rd"
  refine ⟨_, rfl, _, rfl, a, _, rfl, hs, fun l1 n1 => ?_⟩
  rw [cut63 _ hl63]
  have eM : ((2 : Int) ^ Int.toNat 64 * 2 ^ Int.toNat 63 - 1) = MR := by decide +kernel
  have e18 : ((10 : Int) ^ Int.toNat 18) = 1000000000000000000 := by decide +kernel
  have s1 := same_upd (o := .lst (ns.map V.int)) n1
  have k1 := upd_same (H := H) (a := l1) (o := .lst (ns.map V.int))
  generalize upd H l1 (.lst (ns.map V.int)) = H1 at *
  refine ⟨l1, rfl, ⟨_, SqL.of k1⟩, ForGo.list (a := l1) (xs := ns.map V.int) (fun i σ H' => ∃ (S : Int) (y2 y3 : Option V), σ = [some (.ref a), some (.int S), y2, y3] ∧ H' = H1 ∧ 0 ≤ S ∧ S < MR)
    ⟨_, none, none, rfl, rfl, by decide +kernel, by decide +kernel⟩ (fun i σ H' _ ⟨_, _, _, _, h, _⟩ => by rw [h]; exact SqL.of k1) ?_ ?_⟩
  · rintro i x σ H' hx ⟨S, y2, y3, rfl, rfl, hS, hS2⟩
    rw [List.getElem?_map] at hx
    obtain ⟨n, rfl⟩ : ∃ n, V.int n = x := by
      cases e : ns[i]? with
      | none => rw [e] at hx; cases hx
      | some n => rw [e] at hx; exact ⟨n, Option.some.inj hx⟩
    have hSb : S.natAbs < 2 ^ 127 := by
      have : S < 170141183460469231731687303715884105727 := hS2
      have e : (2 : Nat) ^ 127 = 170141183460469231731687303715884105728 := by decide +kernel
      rw [e]
      omega
    walk_at "rd"
    refine ⟨_, rfl, _, rfl, _, _, rfl, rfl, wide_mul hSb hSb (by decide) (by decide) (by decide), ?_⟩
    refine ⟨_, rfl, _, _, rfl, rfl, (show (0 : Int) < 1000000000000000003 by decide), _, _, rfl, rfl, _, _, rfl, rfl, ?_⟩
    refine ⟨_, _, rfl, rfl, ⟨by decide, by decide, by decide⟩, _, _, rfl, rfl, ⟨by decide, by decide, by decide⟩, _, _, rfl, rfl, .inr (by constructor <;> decide +kernel), _, _, rfl, rfl, _, _, rfl, rfl, ?_, ?_⟩
    · show (0 : Int) < (2 : Int) ^ Int.toNat 64 * 2 ^ Int.toNat 63 - 1
      rw [eM]
      decide
    · refine ⟨(S * S + n % 1000000000000000003 + 11) % ((2 : Int) ^ Int.toNat 64 * 2 ^ Int.toNat 63 - 1), _, _, rfl, rfl, ?_, ?_⟩
      · rw [eM]; exact Int.emod_nonneg _ (by decide)
      · rw [eM]; exact Int.emod_lt_of_pos _ (by decide)
  · rintro σ H' ⟨S, y2, y3, rfl, rfl, hS, hS2⟩
    walk_at "rd"
    have hsq1 := s1.seq hs
    refine lc_lst ?_
    walk_at "rd"
    refine ⟨_, rfl, _, rfl, a, _, rfl, hsq1, fun l2 n2 => ?_⟩
    rw [cut63 _ hl63]
    have s2 := same_upd (o := .lst (ns.map V.int)) n2
    have k2 := upd_same (H := H') (a := l2) (o := .lst (ns.map V.int))
    generalize upd H' l2 (.lst (ns.map V.int)) = H2 at *
    refine ⟨l2, rfl, ⟨_, SqL.of k2⟩, fun D nD => ?_⟩
    refine LcGo.list (a := l2) (xs := ns.map V.int) (fun i H' => Same H2 H' ∧ ∃ gs : List Int, H' D = some (.lst (gs.map V.int)) ∧ gs.length ≤ i) ⟨same_upd nD, [], upd_same, Nat.le_refl _⟩ (fun i H' _ h => SqL.of (h.1 _ _ k2)) ?_ ?_
    · rintro i x H3 hx ⟨s3, gs, hD, hgl⟩
      have hin := (List.getElem?_eq_some_iff.mp hx).1
      rw [List.length_map] at hin
      rw [List.getElem?_map] at hx
      obtain ⟨n, rfl⟩ : ∃ n, V.int n = x := by
        cases e : ns[i]? with
        | none => rw [e] at hx; cases hx
        | some n => rw [e] at hx; exact ⟨n, Option.some.inj hx⟩
      walk_at "rd"
      refine ⟨rfl, _, rfl, _, _, rfl, rfl, ⟨by decide, by decide, by decide⟩, _, _, rfl, rfl, _, rfl, ite2 (fun _ => ?_) (fun _ => ?_)⟩
      · refine ⟨_, rfl, _, _, rfl, rfl, ⟨by decide, by decide, by decide⟩, _, _, rfl, rfl, _, hD, Nat.lt_of_le_of_lt (show (gs.map V.int).length ≤ 63 by rw [List.length_map]; omega) (by decide), same_mut s3 nD, gs ++ [n - 10 ^ Int.toNat 18], ?_, by rw [List.length_append]; exact Nat.succ_le_succ hgl⟩
        rw [upd_same, List.map_append]
        rfl
      · exact ⟨s3, gs, hD, by omega⟩
    rintro H3 ⟨s3, gs, hD, hgl⟩
    rw [List.length_map] at hgl
    have s13 := s2.trans s3
    refine ⟨_, rfl, lc_lst ?_⟩
    walk_at "rd"
    refine ⟨_, rfl, _, rfl, a, _, rfl, s13.seq hsq1, fun l3 n3 => ?_⟩
    rw [cut63 _ hl63]
    have s4 := same_upd (o := .lst (ns.map V.int)) n3
    have k3 := upd_same (H := H3) (a := l3) (o := .lst (ns.map V.int))
    have hD4 := s4 _ _ hD
    generalize upd H3 l3 (.lst (ns.map V.int)) = H4 at *
    refine ⟨l3, rfl, ⟨_, SqL.of k3⟩, fun D2 nD2 => ?_⟩
    refine LcGo.list (a := l3) (xs := ns.map V.int) (fun i H' => Same H4 H' ∧ ∃ ts : List Int, H' D2 = some (.lst (ts.map V.int)) ∧ ts.length = i ∧ ∀ t ∈ ts, 0 ≤ t ∧ t ≤ 1000003) ⟨same_upd nD2, [], upd_same, rfl, fun t ht => nomatch ht⟩ (fun i H' _ h => SqL.of (h.1 _ _ k3)) ?_ ?_
    · rintro i x H5 hx ⟨s5, ts, hD2, htl, htr⟩
      have hin := (List.getElem?_eq_some_iff.mp hx).1
      rw [List.length_map] at hin
      rw [List.getElem?_map] at hx
      obtain ⟨n, rfl⟩ : ∃ n, V.int n = x := by
        cases e : ns[i]? with
        | none => rw [e] at hx; cases hx
        | some n => rw [e] at hx; exact ⟨n, Option.some.inj hx⟩
      walk_at "rd"
      refine ⟨rfl, _, rfl, _, _, rfl, rfl, (show (0 : Int) < 1000003 by decide), _, hD2, Nat.lt_of_le_of_lt (show (ts.map V.int).length ≤ 63 by rw [List.length_map]; omega) (by decide), same_mut s5 nD2, ts ++ [n % 1000003], ?_, by rw [List.length_append, htl]; rfl, fun t ht => ?_⟩
      · rw [upd_same, List.map_append]
        rfl
      · rcases List.mem_append.mp ht with h | h
        · exact htr t h
        · rw [List.mem_singleton.mp h]
          have h1 := Int.emod_nonneg n (show (1000003 : Int) ≠ 0 by decide)
          have h2 := Int.emod_lt_of_pos n (show (0 : Int) < 1000003 by decide)
          omega
    rintro H5 ⟨s5, ts, hD2, htl, htr⟩
    rw [List.length_map] at htl
    have hD5 := s5 _ _ hD4
    refine ⟨by show 1 ≤ sizeLine; decide, fun l4 n4 => ?_⟩
    have s6 := same_upd (o := .lst [V.int 41]) n4
    have k4 := upd_same (H := H5) (a := l4) (o := .lst [V.int 41])
    have hD6 := s6 _ _ hD5
    have hD26 := s6 _ _ hD2
    generalize upd H5 l4 (.lst [V.int 41]) = H6 at *
    refine ⟨D2, l4, _, _, rfl, rfl, hD26, k4, Nat.le_trans (show (ts.map V.int).length + 1 ≤ 64 by rw [List.length_map]; omega) (by decide), fun td ntd => ?_⟩
    have e41 : ts.map V.int ++ [V.int 41] = (ts ++ [41]).map V.int := by rw [List.map_append]; rfl
    rw [e41]
    have s7 := same_upd (o := .lst ((ts ++ [41]).map V.int)) ntd
    have ktd := upd_same (H := H6) (a := td) (o := .lst ((ts ++ [41]).map V.int))
    have hD7 := s7 _ _ hD6
    generalize upd H6 td (.lst ((ts ++ [41]).map V.int)) = H7 at *
    refine ⟨_, rfl, by show 4 ≤ sizeLine; decide, fun p np => ?_⟩
    have s8 := same_upd (o := .lst [V.ref D, V.ref td, V.int 0, V.int S]) np
    have sall : Same H (upd H7 p (.lst [V.ref D, V.ref td, V.int 0, V.int S])) := ((((((s1.trans s13).trans s4).trans s5).trans s6).trans s7).trans s8)
    refine q _ p sall ((((((s1.trans s13).trans s4).trans s5).trans s6).trans s7).free np) ⟨D, td, gs, ts ++ [41], 0, S, upd_same, s8 _ _ hD7, s8 _ _ ktd, fun z => (by rw [← z, hD7] at np; cases np), fun z => (by rw [← z, ktd] at np; cases np), by simp, by rw [List.length_append]; show ts.length + 1 ≤ 64; omega, by omega, fun t ht => ?_, Int.le_refl _, hS, hS2⟩
    rcases List.mem_append.mp ht with h | h
    · exact htr t h
    · rw [List.mem_singleton.mp h]
      decide

theorem plain_memR {x : List Nat} (h : Plain x) {c : Nat} (hc : c ∈ x) : alpha.contains c = true := List.all_eq_true.mp h c hc
/-- the letters of a list, joined -/
theorem jn_letR (ws : List Nat) : ((ws.map fun c => [c]).map tx).map V.str = ws.map lV ∧ (((ws.map fun c => [c]).map tx).map (·.length)).sum + ((ws.map fun c => [c]).map tx).length * (tx []).length = ws.length ∧ Txt.join (tx []) ((ws.map fun c => [c]).map tx) = tx ws := by
  have hfl : (ws.map fun c => [c]).flatten = ws := by
    induction ws with
    | nil => rfl
    | cons c ws ih => rw [List.map_cons, List.flatten_cons, ih]; rfl
  refine ⟨?_, ?_, ?_⟩
  · rw [List.map_map, List.map_map]
    rfl
  · have e1 : (((ws.map fun c => [c]).map tx).map (·.length)) = (ws.map fun c => [c]).map (·.length) := by rw [List.map_map]; exact List.map_congr_left fun x _ => tx_len x
    rw [e1, tx_len, List.length_nil, Nat.mul_zero, Nat.add_zero, List.map_map]
    clear hfl e1
    induction ws with
    | nil => rfl
    | cons c ws ih =>
      rw [List.map_cons, List.sum_cons, ih, List.length_cons]
      show 1 + ws.length = _
      omega
  · rw [join_tx, hfl]
def spWordR : Sp := fun vs H Q _ => ∃ (p : Addr) (m : Nat), vs = [.ref p, .int m] ∧ Rel H p ∧ m ≤ 1000 ∧ ∀ H' x, Gr p H H' → x.length = m → Plain x → Q (.str (tx x)) H'
theorem ok__law_word (T : Txt K mg w) : FnOk P w K mg base CX0 2 T.f__law_word.f T.f__law_word.fd ["reel", "many"] spWordR := by
  refine T.f__law_word.F.ok sc__law_word (fun vs H Q E h => ?_) (fun cdv A outer s H vs Q E hr h => ?_)
  · obtain ⟨p, m, rfl, _⟩ := h
    rfl
  obtain ⟨p, m, rfl, hrel, hm, q⟩ := h
  refine ⟨_, (pss_one (ps_ret (pe_join pe_str (pe_lc (own := [("k", 2)]) rfl sc__law_word.nd (pi_range1 (by rfl) T.b_range (pa_cons (pv 1) pa_nil)) (blkOk_by (own := [("k", 2)]) (N := N__law_word) (sc := defScope s__law_word) (by decide +kernel)) (fun _ _ _ _ _ => (pg_name (i := 2) sc__law_word.nd rfl (.inl rfl))) (fun _ _ _ _ _ => pts_nil) (fun _ _ _ _ _ => (pe_ix (ix_seqK K) pe_str (pe_call (ok__law_draw T) (hr.mono (by decide)) (by rfl) T.f__law_draw.g T.f__law_draw.F.kp T.f__law_draw.b .nil pass0 (pa_cons (pv 0) (pa_cons (pe_ix (ix_seqK K) (pe_lst (pa_cons pe_int (pa_cons pe_int pa_nil))) (pe_call (ok__law_draw T) (hr.mono (by decide)) (by rfl) T.f__law_draw.g T.f__law_draw.F.kp T.f__law_draw.b .nil pass0 (pa_cons (pv 0) (pa_cons pe_int pa_nil))) (fun _ _ => rfl)) pa_nil))) (fun _ _ => rfl))))))), ?_⟩
  walk_at "rd"
  refine ⟨⟨_, rfl⟩, lc_rng1 ?_⟩
  walk_at "rd"
  refine ⟨_, rfl, _, rfl, by omega, by omega, fun D nD => ?_⟩
  have nDp := hrel.nin nD
  refine LcGo.range (fun i H' => Gr p H H' ∧ Nin H' p D ∧ ∃ x : List Nat, H' D = some (.lst (x.map fun c => V.str (tx [c]))) ∧ x.length = i ∧ Plain x) ⟨gr_new (.refl hrel) nD, ninv nDp _ nDp, [], upd_same, rfl, rfl⟩ ?_ ?_
  · rintro i H2 hi ⟨g2, hn2, x, hD, hxl, hx⟩
    walk_at "rd"
    refine ⟨rfl, _, rfl, by show 2 ≤ sizeLine; decide, fun l nl => ?_⟩
    have hl1 := g2.rel.nin nl
    have g3 := gr_new (o := .lst [V.int 3, V.int 26]) g2 nl
    have hD1 := same_upd (o := .lst [V.int 3, V.int 26]) nl _ _ hD
    have hDn : H2 D ≠ none := by rw [hD]; exact fun z => by cases z
    have hn3 : Nin (upd H2 l (.lst [V.int 3, V.int 26])) p D := (Gr.of_same g2.rel (same_upd nl)).nin D hDn hn2
    refine ⟨_, rfl, p, 2, rfl, g3.rel, by decide, by decide, fun H3 k g4 k0 kl => ?_⟩
    obtain ⟨mm, hmm, hm1, hm2⟩ : ∃ mm : Int, atI [V.int 3, V.int 26] k = some (.int mm) ∧ 1 ≤ mm ∧ mm ≤ 26 := by
      have : k = 0 ∨ k = 1 := by omega
      rcases this with rfl | rfl
      · exact ⟨3, rfl, by decide, by decide⟩
      · exact ⟨26, rfl, by decide, by decide⟩
    refine ix_lst (g4.keep _ _ hl1.1 upd_same) hmm ⟨p, mm, rfl, g4.rel, by omega, Nat.lt_of_le_of_lt (show mm.natAbs ≤ 26 by omega) (by decide), fun H4 r g5 r0 rl => ?_⟩
    obtain ⟨r, rfl⟩ := Int.eq_ofNat_of_zero_le r0
    have hrl : r < alpha.length := by show r < 26; omega
    have hD4 := g5.keep _ _ nDp.1 (g4.keep _ _ nDp.1 hD1)
    have hn4 : Nin H4 p D := g5.nin D (fun z => by rw [g4.keep _ _ nDp.1 hD1] at z; cases z) (g4.nin D (fun z => by rw [hD1] at z; cases z) hn3)
    have g6 := (g3.trans g4).trans g5
    refine ix_tx (z := alpha) (by decide) (at_ofA (j := r) rfl (List.getElem?_eq_getElem hrl)) ⟨_, hD4, Nat.lt_of_le_of_lt (show (x.map fun c => V.str (tx [c])).length ≤ 1000 by rw [List.length_map]; omega) (by decide), gr_mut g6 nD hn4, ninv hn4 _ hn4, x ++ [alpha[r]], ?_, by rw [List.length_append, hxl]; rfl, ?_⟩
    · rw [upd_same, List.map_append]
      rfl
    · show (x ++ [alpha[r]]).all _ = true
      rw [List.all_append, show x.all (alpha.contains ·) = true from hx, List.all_cons, show alpha.contains alpha[r] = true by rw [List.contains_iff_mem]; exact List.getElem_mem hrl]
      rfl
  · rintro H3 ⟨g3, hn3, x, hD, hxl, hx⟩
    obtain ⟨j1, j2, j3⟩ := jn_letR x
    refine ⟨tx [], D, (x.map fun c => [c]).map tx, rfl, rfl, .inl (SqL.of (by rw [j1]; exact hD)), ?_, ?_⟩
    · rw [j2, hxl]
      omega
    · rw [j3]
      exact q _ x g3 (by rw [hxl]; rfl) hx

theorem prd_app {α β : Type} {R : α → β → Prop} : ∀ {xs : List α} {ys : List β} {us : List α} {vs : List β}, Paired R xs ys → Paired R us vs → Paired R (xs ++ us) (ys ++ vs)
  | _, _, _, _, .nil, h => h
  | _, _, _, _, .cons r t, h => .cons r (prd_app t h)
theorem mvk (z : Str) (h : z ∈ (["left", "right", "strike", "rub", "copy", "cut"] : List Str)) (n : Nat) : ∃ k : Ky, k.vs = [.str z, .int n] ∧ k.wt = n ∧ (1 ≤ n → k.ok) ∧ z ≠ "write" ∧ z ≠ "paste" := by
  simp only [List.mem_cons, List.not_mem_nil, or_false] at h
  rcases h with rfl | rfl | rfl | rfl | rfl | rfl
  · exact ⟨.left n, rfl, rfl, id, by decide, by decide⟩
  · exact ⟨.right n, rfl, rfl, id, by decide, by decide⟩
  · exact ⟨.strike n, rfl, rfl, id, by decide, by decide⟩
  · exact ⟨.rub n, rfl, rfl, id, by decide, by decide⟩
  · exact ⟨.copy n, rfl, rfl, id, by decide, by decide⟩
  · exact ⟨.cut n, rfl, rfl, id, by decide, by decide⟩
def KeyT (p : Addr) (H : Hp) (v : V) (k : Ky) : Prop := ∃ b, v = .ref b ∧ b ≠ p ∧ H b = some (.tup k.vs)
def HandL (p : Addr) (H : Hp) (a : Addr) (ks : List Ky) : Prop := a ≠ p ∧ ∃ xs, H a = some (.lst xs) ∧ Paired (KeyT p H) xs ks
theorem HandL.mv {p : Addr} {H H' : Hp} {a : Addr} {ks : List Ky} (f : ∀ b o, b ≠ p → H b = some o → H' b = some o) (h : HandL p H a ks) : HandL p H' a ks := by
  obtain ⟨ha, xs, h1, h2⟩ := h
  exact ⟨ha, xs, f _ _ ha h1, prd_same (fun _ _ ⟨b, e, hb, hk⟩ => ⟨b, e, hb, f _ _ hb hk⟩) h2⟩
theorem HandL.gr {p : Addr} {H H' : Hp} {a : Addr} {ks : List Ky} (g : Gr p H H') (h : HandL p H a ks) : HandL p H' a ks := h.mv g.keep
theorem HandL.at {K : PySem.W.Frag} {p : Addr} {H : Hp} {a : Addr} {ks : List Ky} (h : HandL p H a ks) : HandAt K H (.ref a) ks := by
  obtain ⟨_, xs, h1, h2⟩ := h
  exact ⟨a, xs, rfl, .inl (SqL.of h1), prd_same (fun _ _ ⟨b, e, _, hk⟩ => ⟨b, e, .inr (SqT.of hk)⟩) h2⟩
/-- a key put behind the keys of an own hand -/
theorem HandL.put {p : Addr} {H0 H : Hp} {a t : Addr} {ks : List Ky} {k : Ky} {xs : List V} (g : Gr p H0 H) (na : H0 a = none) (hn : Nin H p a) (hx : H a = some (.lst xs)) (hp : Paired (KeyT p H) xs ks) (nt : H t = none) :
    (upd H t (.tup k.vs)) a = some (.lst xs) ∧ Gr p H0 (upd (upd H t (.tup k.vs)) a (.lst (xs ++ [.ref t]))) ∧ Nin (upd (upd H t (.tup k.vs)) a (.lst (xs ++ [.ref t]))) p a ∧ HandL p (upd (upd H t (.tup k.vs)) a (.lst (xs ++ [.ref t]))) a (ks ++ [k]) := by
  have hta : t ≠ a := fun e => by rw [e, hx] at nt; cases nt
  have htp := g.rel.ne nt
  have hn1 : Nin (upd H t (.tup k.vs)) p a := (Gr.of_same g.rel (same_upd nt)).nin a (fun z => by rw [hx] at z; cases z) hn
  have keys : ∀ xs2 ks2, Paired (KeyT p H) xs2 ks2 → (∀ v ∈ xs2, v ≠ .ref a) → Paired (KeyT p (upd (upd H t (.tup k.vs)) a (.lst (xs ++ [.ref t])))) xs2 ks2 := fun xs2 ks2 h => by
    induction h with
    | nil => intro _; exact .nil
    | cons r _ ih =>
      intro hv
      obtain ⟨b, rfl, hb, hk⟩ := r
      refine .cons ⟨b, rfl, hb, ?_⟩ (ih fun v hv' => hv v (List.mem_cons_of_mem _ hv'))
      rw [upd_ne (fun z => hv _ (List.mem_cons_self ..) (by rw [z])), upd_ne (fun z => by rw [z, nt] at hk; cases hk)]
      exact hk
  have noA : ∀ v ∈ xs, v ≠ .ref a := fun v hv z => by
    obtain ⟨i, hi⟩ := List.getElem?_of_mem hv
    obtain ⟨k2, _, b, e, _, hk⟩ := prd_at hp hi
    rw [e] at z
    injection z with z
    rw [z, hx] at hk
    cases hk
  exact ⟨by rw [upd_ne hta.symm]; exact hx, gr_mut (gr_new g nt) na hn1, ninv hn1 _ hn1, hn1.1, xs ++ [.ref t], upd_same, prd_app (keys _ _ hp noA) (.cons ⟨t, rfl, htp, by rw [upd_ne hta, upd_same]⟩ .nil)⟩
def KN10 : List V := [V.str "left", V.str "right", V.str "strike", V.str "rub", V.str "copy", V.str "cut", V.str "write", V.str "paste", V.str "right", V.str "cut"]
theorem names10 {r : Int} (h0 : 0 ≤ r) (h : r < 10) : ∃ z : Str, atI KN10 r = some (.str z) ∧ (z = "paste" ∨ z = "write" ∨ z ∈ (["left", "right", "strike", "rub", "copy", "cut"] : List Str)) := by
  obtain ⟨n, rfl⟩ := Int.eq_ofNat_of_zero_le h0
  have hn : n < 10 := by omega
  match n, hn with
  | 0, _ => exact ⟨"left", at_ofA (j := 0) rfl rfl, .inr (.inr (by decide))⟩
  | 1, _ => exact ⟨"right", at_ofA (j := 1) rfl rfl, .inr (.inr (by decide))⟩
  | 2, _ => exact ⟨"strike", at_ofA (j := 2) rfl rfl, .inr (.inr (by decide))⟩
  | 3, _ => exact ⟨"rub", at_ofA (j := 3) rfl rfl, .inr (.inr (by decide))⟩
  | 4, _ => exact ⟨"copy", at_ofA (j := 4) rfl rfl, .inr (.inr (by decide))⟩
  | 5, _ => exact ⟨"cut", at_ofA (j := 5) rfl rfl, .inr (.inr (by decide))⟩
  | 6, _ => exact ⟨"write", at_ofA (j := 6) rfl rfl, .inr (.inl rfl)⟩
  | 7, _ => exact ⟨"paste", at_ofA (j := 7) rfl rfl, .inl rfl⟩
  | 8, _ => exact ⟨"right", at_ofA (j := 8) rfl rfl, .inr (.inr (by decide))⟩
  | 9, _ => exact ⟨"cut", at_ofA (j := 9) rfl rfl, .inr (.inr (by decide))⟩
theorem iteB {k : Bool} {F : Int → Prop} {x y : Int} (h : ∀ mm, (mm = x ∨ mm = y) → F mm) : if k = true then F x else F y := by
  cases k with
  | true => exact h x (.inl rfl)
  | false => exact h y (.inr rfl)
def spAnyR : Sp := fun vs H Q _ => ∃ (p : Addr) (m : Nat), vs = [.ref p, .int m] ∧ Rel H p ∧ m ≤ 60 ∧ ∀ H' a ks, Gr p H H' → H a = none → Nin H' p a → HandL p H' a ks → (∀ k ∈ ks, k.ok) → hwt ks ≤ m → Q (.ref a) H'
theorem ok__law_any_hand (T : Txt K mg w) : FnOk P w K mg base CX0 3 T.f__law_any_hand.f T.f__law_any_hand.fd ["reel", "most"] spAnyR := by
  refine T.f__law_any_hand.F.ok sc__law_any_hand (fun vs H Q E h => ?_) (fun cdv A outer s H vs Q E hr h => ?_)
  · obtain ⟨p, m, rfl, _⟩ := h
    rfl
  obtain ⟨p, m, rfl, hrel, hm, q⟩ := h
  refine ⟨_, (pss_cons (ps_set (i := 2) sc__law_any_hand.nd rfl (.inl rfl) (pe_lst pa_nil))
      (pss_cons (ps_set (i := 3) sc__law_any_hand.nd rfl (.inl rfl) (pe_cmpR op_eq (pe_call (ok__law_draw T) (hr.mono (by decide)) (by rfl) T.f__law_draw.g T.f__law_draw.F.kp T.f__law_draw.b .nil pass0 (pa_cons (pv 0) (pa_cons pe_int pa_nil))) pe_int (nomark _)))
      (pss_cons (ps_for PassesOwn.never rfl (pi_range1 (by rfl) T.b_range (pa_cons (pe_call (ok__law_draw T) (hr.mono (by decide)) (by rfl) T.f__law_draw.g T.f__law_draw.F.kp T.f__law_draw.b .nil pass0 (pa_cons (pv 0) (pa_cons (pe_ifExp (pt_truth (pv 3) (by intro _; rfl)) pe_int pe_int) pa_nil))) pa_nil)) (pg_name (i := 4) sc__law_any_hand.nd rfl (.inl rfl))
        (pss_one (ps_if (pt_cmpR op_gt (pv 1) pe_int (nomark _)) (pss_cons (ps_set (i := 5) sc__law_any_hand.nd rfl (.inl rfl) pe_int)
      (C8.pss_cut (ps_if (pt_not (pt_truth (pv 3) (by intro _; rfl))) (pss_one (ps_set (i := 5) sc__law_any_hand.nd rfl (.inl rfl) (pe_op op_add pe_int (pe_call (ok__law_draw T) (hr.mono (by decide)) (by rfl) T.f__law_draw.g T.f__law_draw.F.kp T.f__law_draw.b .nil pass0 (pa_cons (pv 0) (pa_cons (pe_callB (call_min2 rfl) (by rfl) T.b_min (by decide +kernel) (pa_cons (pv 1) (pa_cons (pe_ix ix_seq (pe_lst (pa_cons pe_int (pa_cons pe_int (pa_cons (pv 1) pa_nil)))) (pe_call (ok__law_draw T) (hr.mono (by decide)) (by rfl) T.f__law_draw.g T.f__law_draw.F.kp T.f__law_draw.b .nil pass0 (pa_cons (pv 0) (pa_cons pe_int pa_nil))) (fun _ _ => rfl)) pa_nil))) pa_nil)))))) pss_nil)
      (pss_cons (ps_set (i := 6) sc__law_any_hand.nd rfl (.inl rfl) (pe_lst (pa_cons pe_str (pa_cons pe_str (pa_cons pe_str (pa_cons pe_str (pa_cons pe_str (pa_cons pe_str (pa_cons pe_str (pa_cons pe_str (pa_cons pe_str (pa_cons pe_str pa_nil))))))))))))
      (pss_cons (ps_set (i := 7) sc__law_any_hand.nd rfl (.inl rfl) (pe_ix ix_seq (pv 6) (pe_call (ok__law_draw T) (hr.mono (by decide)) (by rfl) T.f__law_draw.g T.f__law_draw.F.kp T.f__law_draw.b .nil pass0 (pa_cons (pv 0) (pa_cons pe_int pa_nil))) (fun _ _ => rfl)))
      (pss_cons (ps_if (pt_cmpR op_eq (pv 7) pe_str (nomark _)) (pss_cons (ps_expr (pe_bm PySem.F.plainAttrs_list PySem.F.slot_list_append PySem.F.type_list_append mt_append (pv 2) (pa_cons (pe_tup (pa_cons pe_str pa_nil)) pa_nil)))
      (pss_one (ps_set (i := 5) sc__law_any_hand.nd rfl (.inl rfl) pe_int))) (pss_one (ps_if (pt_cmpR op_eq (pv 7) pe_str (nomark _)) (pss_one (ps_expr (pe_bm PySem.F.plainAttrs_list PySem.F.slot_list_append PySem.F.type_list_append mt_append (pv 2) (pa_cons (pe_tup (pa_cons pe_str (pa_cons (pe_call (ok__law_word T) (hr.mono (by decide)) (by rfl) T.f__law_word.g T.f__law_word.F.kp T.f__law_word.b .nil pass0 (pa_cons (pv 0) (pa_cons (pv 5) pa_nil))) pa_nil))) pa_nil)))) (pss_one (ps_expr (pe_bm PySem.F.plainAttrs_list PySem.F.slot_list_append PySem.F.type_list_append mt_append (pv 2) (pa_cons (pe_tup (pa_cons (pv 7) (pa_cons (pv 5) pa_nil))) pa_nil)))))))
      (pss_one (ps_set (i := 1) sc__law_any_hand.nd rfl (.inl rfl) (pe_op op_sub (pv 1) (pv 5))))))))) pss_nil)))
      (pss_one (ps_ret (pv 2)))))), ?_⟩
  walk_at "rd"
  refine ⟨by show 0 ≤ sizeLine; decide, fun a na => ?_⟩
  have g0 := gr_new (o := .lst []) (.refl hrel) na
  have hn0 := ninv (x := .lst []) (hrel.nin na) _ (hrel.nin na)
  have ha0 := upd_same (H := H) (a := a) (o := .lst [])
  have nA : ∀ {H' : Hp} {o : HO}, H' a = some o → H' a ≠ none := fun h z => by rw [h] at z; cases z
  generalize upd H a (.lst []) = H0 at *
  refine ⟨_, rfl, p, 4, rfl, g0.rel, by decide, by decide, fun H1 r g1 r0 r4 => ⟨rfl, ?_⟩⟩
  have hn1 := g1.nin a (nA ha0) hn0
  have ha1 := g1.keep _ _ hn0.1 ha0
  have g1 := g0.trans g1
  refine fr_rng1 ?_
  walk_at "rd"
  have hr1 : ∀ b : Bool, ∃ k, TruV K (V.bl b) H1 k ∧ k = b := fun b => ⟨b, rfl, rfl⟩
  generalize decide (V.int r = V.int 0) = long
  refine ⟨_, rfl, _, rfl, long, rfl, iteB (F := fun mm => spDrawR [V.ref p, V.int mm] H1 _ E0) (fun mm hmm => ?_)⟩
  refine ⟨p, mm, rfl, g1.rel, by omega, Nat.lt_of_le_of_lt (show mm.natAbs ≤ 61 by omega) (by decide), fun H2 n g2 n0 nm => ⟨_, rfl, by omega, by omega, ?_⟩⟩
  have hn2 := g2.nin a (nA ha1) hn1
  have ha2 := g2.keep _ _ hn0.1 ha1
  have g2 := g1.trans g2
  refine ForGo.range (fun i σ H' => ∃ (room : Nat) (ks : List Ky) (y4 y5 y6 y7 : Option V), σ = [some (.ref p), some (.int room), some (.ref a), some (.bl long), y4, y5, y6, y7] ∧ Gr p H H' ∧ Nin H' p a ∧ HandL p H' a ks ∧ (∀ k ∈ ks, k.ok) ∧ hwt ks + room ≤ m)
    ⟨m, [], _, _, _, _, rfl, g2, hn2, ⟨hn0.1, [], ha2, .nil⟩, (fun k h => nomatch h), by show 0 + m ≤ m; omega⟩ ?_ ?_
  · rintro i σ H3 hi ⟨room, ks, y4, y5, y6, y7, rfl, g3, hn3, hL, hok, hwr⟩
    walk_at "rd"
    refine ⟨_, rfl, _, _, rfl, rfl, _, rfl, ite2 (fun hpos => ?_) (fun hpos => ?_)⟩
    · have hroom : 0 < (room : Int) := of_decide_eq_true hpos
      walk_at "rd"
      have ha3 : H3 a ≠ none := by obtain ⟨_, xs, hx, _⟩ := hL; exact nA hx
      refine ⟨fun σ' H' => ∃ many : Nat, σ' = [some (.ref p), some (.int room), some (.ref a), some (.bl long), some (.int (0 + i)), some (.int many), y6, y7] ∧ 1 ≤ many ∧ many ≤ room ∧ Gr p H H' ∧ Nin H' p a ∧ HandL p H' a ks, ?_, ?_⟩
      · walk_at "rd"
        refine ⟨_, rfl, long, rfl, ?_⟩
        cases long with
        | true => exact iteN rfl ⟨1, rfl, Nat.le_refl _, by omega, g3, hn3, hL⟩
        | false =>
          refine iteY rfl ⟨_, rfl, _, rfl, _, rfl, by show 3 ≤ sizeLine; decide, fun l nl => ?_⟩
          have hlp := g3.rel.ne nl
          have g4 := Gr.of_same g3.rel (same_upd (o := .lst [V.int 1, V.int 3, V.int room]) nl)
          refine ⟨_, rfl, p, 3, rfl, g4.rel, by decide, by decide, fun H4 k g5 k0 kl => ?_⟩
          obtain ⟨mm, hmm, hm1, hm2⟩ : ∃ mm : Int, atI [V.int 1, V.int 3, V.int room] k = some (.int mm) ∧ 1 ≤ mm ∧ mm ≤ 100 := by
            have : k = 0 ∨ k = 1 ∨ k = 2 := by omega
            rcases this with rfl | rfl | rfl
            · exact ⟨1, rfl, by decide, by decide⟩
            · exact ⟨3, rfl, by decide, by decide⟩
            · exact ⟨room, rfl, by omega, by omega⟩
          have hmin : 1 ≤ (if mm < (room : Int) then mm else (room : Int)) ∧ (if mm < (room : Int) then mm else (room : Int)) ≤ room := by split <;> omega
          refine ix_lst (g5.keep _ _ hlp upd_same) hmm ⟨_, _, rfl, p, _, rfl, g5.rel, by omega, Nat.lt_of_le_of_lt (show (if mm < (room : Int) then mm else (room : Int)).natAbs ≤ 60 by omega) (by decide), fun H5 d g6 d0 dl => ⟨_, _, rfl, rfl, ?_⟩⟩
          obtain ⟨d, rfl⟩ := Int.eq_ofNat_of_zero_le d0
          have g36 := (g4.trans g5).trans g6
          refine ⟨1 + d, ?_, by omega, by omega, g3.trans g36, g36.nin a ha3 hn3, hL.gr g36⟩
          show _ = [some (V.ref p), some (.int room), some (.ref a), some (.bl false), some (.int (0 + i)), some (.int ((1 + d : Nat) : Int)), y6, y7]
          rw [show ((1 + d : Nat) : Int) = 1 + (d : Int) by omega]
          rfl
      · rintro σ' H4 ⟨many, rfl, hm1, hm2, g4, hn4, hL4⟩
        walk_at "rd"
        refine ⟨by show 10 ≤ sizeLine; decide, fun l nl => ?_⟩
        have hlp := g4.rel.ne nl
        have s5 := same_upd (o := .lst KN10) nl
        have g5 := gr_new (o := .lst KN10) g4 nl
        have g45 := Gr.of_same g4.rel s5
        have kl := upd_same (H := H4) (a := l) (o := .lst KN10)
        show ∃ v, _ ∧ ∃ v_1, _ ∧ spDrawR [v_1, V.int 10] (upd H4 l (.lst KN10)) _ E0
        generalize upd H4 l (.lst KN10) = H5 at *
        refine ⟨_, rfl, _, rfl, p, 10, rfl, g5.rel, by decide, by decide, fun H6 k g6 k0 kl2 => ?_⟩
        obtain ⟨zn, hz, hzn⟩ := names10 k0 kl2
        refine ix_lst (g6.keep _ _ hlp kl) hz ?_
        have g46 := g45.trans g6
        have ha4 : H4 a ≠ none := by obtain ⟨_, xs, hx, _⟩ := hL4; exact nA hx
        have hn6 := g46.nin a ha4 hn4
        have g7 := g4.trans g46
        obtain ⟨_, xs, hxs, hpx⟩ := hL4.gr g46
        have hlx : xs.length = ks.length := prd_len hpx
        have hkl := len_hwt hok
        have xsl : xs.length < sizeLine := Nat.lt_of_le_of_lt (show xs.length ≤ 60 by omega) (by decide)
        have okA : ∀ k : Ky, k.ok → ∀ k' ∈ ks ++ [k], k'.ok := fun k hk k' h => by
          rcases List.mem_append.mp h with h | h
          · exact hok k' h
          · rw [List.mem_singleton.mp h]
            exact hk
        have wtA : ∀ k : Ky, k.wt ≤ room → hwt (ks ++ [k]) + (room - k.wt) ≤ m := fun k hk => by
          rw [hwt_app, hwt_cons]
          show hwt ks + (k.wt + 0) + (room - k.wt) ≤ m
          omega
        have eI : ∀ n : Nat, n ≤ room → (room : Int) - (n : Int) = ((room - n : Nat) : Int) := fun n h => by omega
        rcases hzn with rfl | rfl | hzn
        · -- paste
          refine ⟨_, rfl, rfl, _, rfl, iteY (by decide) ⟨_, rfl, .inl ⟨rfl, _, SqL.of hxs⟩, by show 1 ≤ sizeLine; decide, fun t nt => ?_⟩⟩
          obtain ⟨u1, u2, u3, u4⟩ := HandL.put (k := .paste) g7 na hn6 hxs hpx nt
          rw [show Ky.paste.vs = [.str "paste"] from rfl] at u1 u2 u3 u4
          refine ⟨a, xs, _, rfl, rfl, u1, xsl, _, rfl, _, rfl, _, _, rfl, rfl, room - 1, ks ++ [Ky.paste], some (.int (0 + i)), some (.int 1), some (.ref l), some (.str "paste"), ?_, u2, u3, u4, okA .paste trivial, wtA .paste (show 1 ≤ room by omega)⟩
          show _ = [some (V.ref p), some (.int ((room - 1 : Nat) : Int)), _, _, _, _, _, _]
          rw [← eI 1 (by omega)]
          rfl
        · -- write
          refine ⟨_, rfl, rfl, _, rfl, iteN (by decide) ⟨_, rfl, rfl, _, rfl, iteY (by decide) ?_⟩⟩
          refine ⟨_, rfl, .inl ⟨rfl, _, SqL.of hxs⟩, _, rfl, _, rfl, p, many, rfl, g7.rel, by omega, fun H8 wd g8 wl wpl => ?_⟩
          have hn8 := g8.nin a (nA hxs) hn6
          have hL8 := (hL4.gr g46).gr g8
          obtain ⟨_, xs8, hxs8, hpx8⟩ := hL8
          have hlx8 : xs8.length = ks.length := prd_len hpx8
          refine ⟨by show 2 ≤ sizeLine; decide, fun t nt => ?_⟩
          obtain ⟨u1, u2, u3, u4⟩ := HandL.put (k := .write wd) (g7.trans g8) na hn8 hxs8 hpx8 nt
          rw [show (Ky.write wd).vs = [.str "write", .str (tx wd)] from rfl] at u1 u2 u3 u4
          refine ⟨a, xs8, _, rfl, rfl, u1, by omega, _, rfl, _, rfl, _, _, rfl, rfl, room - many, ks ++ [Ky.write wd], some (.int (0 + i)), some (.int many), some (.ref l), some (.str "write"), ?_, u2, u3, u4, okA (.write wd) ⟨fun e => by rw [e] at wl; simp at wl; omega, by omega, wpl⟩, ?_⟩
          · show _ = [some (V.ref p), some (.int ((room - many : Nat) : Int)), _, _, _, _, _, _]
            rw [← eI many hm2]
            rfl
          · have := wtA (.write wd) (show wd.length ≤ room by omega)
            rw [show (Ky.write wd).wt = many from wl] at this
            exact this
        · obtain ⟨k, kvs, kwt, kok, z1, z2⟩ := mvk zn hzn many
          refine ⟨_, rfl, rfl, _, rfl, iteN (decide_eq_false fun e => z2 (V.str.inj e)) ⟨_, rfl, rfl, _, rfl, iteN (decide_eq_false fun e => z1 (V.str.inj e)) ?_⟩⟩
          refine ⟨_, rfl, .inl ⟨rfl, _, SqL.of hxs⟩, _, rfl, _, rfl, by show 2 ≤ sizeLine; decide, fun t nt => ?_⟩
          obtain ⟨u1, u2, u3, u4⟩ := HandL.put (k := k) g7 na hn6 hxs hpx nt
          rw [kvs] at u1 u2 u3 u4
          refine ⟨a, xs, _, rfl, rfl, u1, xsl, _, rfl, _, rfl, _, _, rfl, rfl, room - many, ks ++ [k], some (.int (0 + i)), some (.int many), some (.ref l), some (.str zn), ?_, u2, u3, u4, okA _ (kok hm1), ?_⟩
          · show _ = [some (V.ref p), some (.int ((room - many : Nat) : Int)), _, _, _, _, _, _]
            rw [← eI many hm2]
            rfl
          · have := wtA k (by omega)
            rw [kwt] at this
            exact this
    · exact ⟨room, ks, _, _, _, _, rfl, g3, hn3, hL, hok, hwr⟩
  · rintro σ H3 ⟨room, ks, y4, y5, y6, y7, rfl, g3, hn3, hL, hok, hwr⟩
    walk_at "rd"
    exact ⟨_, rfl, q _ a ks g3 na hn3 hL hok (by omega)⟩

theorem KeyT.mv {p : Addr} {H H' : Hp} {v : V} {k : Ky} (f : ∀ b o, b ≠ p → H b = some o → H' b = some o) (h : KeyT p H v k) : KeyT p H' v k := by
  obtain ⟨b, e, hb, hk⟩ := h
  exact ⟨b, e, hb, f _ _ hb hk⟩
/-- two own hands joined to a new one -/
theorem HandL.cat {p : Addr} {H : Hp} {a b D : Addr} {ks js : List Ky} {xs ys : List V} (rel : Rel H p) (hx : H a = some (.lst xs)) (hpx : Paired (KeyT p H) xs ks) (hy : H b = some (.lst ys)) (hpy : Paired (KeyT p H) ys js) (nD : H D = none) :
    HandL p (upd H D (.lst (xs ++ ys))) D (ks ++ js) := by
  have s := same_upd (o := .lst (xs ++ ys)) nD
  exact ⟨rel.ne nD, xs ++ ys, upd_same, prd_app (prd_same (fun _ _ h => KeyT.mv (fun b o _ e => s b o e) h) hpx) (prd_same (fun _ _ h => KeyT.mv (fun b o _ e => s b o e) h) hpy)⟩
def spRingR : Sp := fun vs H Q _ => ∃ (p : Addr), vs = [.ref p] ∧ Rel H p ∧ ∀ H' a ks, Gr p H H' → H a = none → Nin H' p a → HandL p H' a ks → (∀ k ∈ ks, k.ok) → hwt ks ≤ 60 → Q (.ref a) H'
theorem ok__law_ring_hand (T : Txt K mg w) : FnOk P w K mg base CX0 3 T.f__law_ring_hand.f T.f__law_ring_hand.fd ["reel"] spRingR := by
  refine T.f__law_ring_hand.F.ok sc__law_ring_hand (fun vs H Q E h => ?_) (fun cdv A outer s H vs Q E hr h => ?_)
  · obtain ⟨p, rfl, _⟩ := h
    rfl
  obtain ⟨p, rfl, hrel, q⟩ := h
  refine ⟨_, (pss_cons (ps_set (i := 1) sc__law_ring_hand.nd rfl (.inl rfl) (pe_ix ix_seq (pe_lst (pa_cons (pe_lst (pa_cons (pe_tup (pa_cons pe_str (pa_cons pe_int pa_nil))) (pa_cons (pe_tup (pa_cons pe_str pa_nil)) pa_nil))) (pa_cons (pe_lst (pa_cons (pe_tup (pa_cons pe_str (pa_cons (pe_call (ok__law_word T) (hr.mono (by decide)) (by rfl) T.f__law_word.g T.f__law_word.F.kp T.f__law_word.b .nil pass0 (pa_cons (pv 0) (pa_cons pe_int pa_nil))) pa_nil))) pa_nil)) (pa_cons (pe_lst (pa_cons (pe_tup (pa_cons pe_str (pa_cons pe_int pa_nil))) pa_nil)) (pa_cons (pe_lst pa_nil) pa_nil))))) (pe_call (ok__law_draw T) (hr.mono (by decide)) (by rfl) T.f__law_draw.g T.f__law_draw.F.kp T.f__law_draw.b .nil pass0 (pa_cons (pv 0) (pa_cons pe_int pa_nil))) (fun _ _ => rfl)))
      (pss_cons (ps_set (i := 2) sc__law_ring_hand.nd rfl (.inl rfl) pe_int)
      (pss_cons (ps_for PassesOwn.never rfl (pi_range1 (by rfl) T.b_range (pa_cons (pe_op op_add pe_int (pe_call (ok__law_draw T) (hr.mono (by decide)) (by rfl) T.f__law_draw.g T.f__law_draw.F.kp T.f__law_draw.b .nil pass0 (pa_cons (pv 0) (pa_cons pe_int pa_nil)))) pa_nil)) (pg_name (i := 3) sc__law_ring_hand.nd rfl (.inl rfl))
        (pss_cons (ps_set (i := 4) sc__law_ring_hand.nd rfl (.inl rfl) (pe_op op_add pe_int (pe_call (ok__law_draw T) (hr.mono (by decide)) (by rfl) T.f__law_draw.g T.f__law_draw.F.kp T.f__law_draw.b .nil pass0 (pa_cons (pv 0) (pa_cons pe_int pa_nil)))))
      (pss_cons (ps_set (i := 1) sc__law_ring_hand.nd rfl (.inl rfl) (pe_op op_cat (pv 1) (pe_lst (pa_cons (pe_tup (pa_cons pe_str (pa_cons pe_int pa_nil))) (pa_cons (pe_tup (pa_cons pe_str (pa_cons (pe_op op_sub (pv 4) pe_int) pa_nil))) (pa_cons (pe_tup (pa_cons pe_str pa_nil)) pa_nil))))))
      (pss_one (ps_set (i := 2) sc__law_ring_hand.nd rfl (.inl rfl) (pe_op op_add (pv 2) (pv 4)))))))
      (pss_one (ps_ret (pe_op op_cat (pv 1) (pe_lst (pa_cons (pe_tup (pa_cons pe_str (pa_cons (pe_op op_add (pv 2) (pe_call (ok__law_draw T) (hr.mono (by decide)) (by rfl) T.f__law_draw.g T.f__law_draw.F.kp T.f__law_draw.b .nil pass0 (pa_cons (pv 0) (pa_cons pe_int pa_nil)))) pa_nil))) pa_nil)))))))), ?_⟩
  walk_at "rd"
  have g0 := Gr.refl hrel
  refine ⟨by show 2 ≤ sizeLine; decide, fun t1 nt1 => ?_⟩
  have st1 := same_upd (o := .tup [V.str "copy", V.int 1]) nt1
  have kt1 := upd_same (H := H) (a := t1) (o := .tup [V.str "copy", V.int 1])
  have gt1 := gr_new (o := .tup [V.str "copy", V.int 1]) g0 nt1
  have pt1 := g0.rel.ne nt1
  generalize upd H t1 (.tup [V.str "copy", V.int 1]) = A0 at *
  refine ⟨by show 1 ≤ sizeLine; decide, fun t2 nt2 => ?_⟩
  have st2 := same_upd (o := .tup [V.str "paste"]) nt2
  have kt2 := upd_same (H := A0) (a := t2) (o := .tup [V.str "paste"])
  have gt2 := gr_new (o := .tup [V.str "paste"]) gt1 nt2
  have pt2 := gt1.rel.ne nt2
  have kt1 := st2 _ _ kt1
  generalize upd A0 t2 (.tup [V.str "paste"]) = A1 at *
  refine ⟨by show 2 ≤ sizeLine; decide, fun l1 nl1 => ?_⟩
  have sl1 := same_upd (o := .lst [V.ref t1, V.ref t2]) nl1
  have kl1 := upd_same (H := A1) (a := l1) (o := .lst [V.ref t1, V.ref t2])
  have gl1 := gr_new (o := .lst [V.ref t1, V.ref t2]) gt2 nl1
  have pl1 := gt2.rel.ne nl1
  have kt1 := sl1 _ _ kt1
  have kt2 := sl1 _ _ kt2
  generalize upd A1 l1 (.lst [V.ref t1, V.ref t2]) = A2 at *
  refine ⟨_, rfl, p, 2, rfl, gl1.rel, by decide, fun W wd gW wl wpl => ?_⟩
  have gW' := gl1.trans gW
  have kt1 := gW.keep _ _ pt1 kt1
  have kt2 := gW.keep _ _ pt2 kt2
  have kl1 := gW.keep _ _ pl1 kl1
  refine ⟨by show 2 ≤ sizeLine; decide, fun t3 nt3 => ?_⟩
  have st3 := same_upd (o := .tup [V.str "write", V.str (tx wd)]) nt3
  have kt3 := upd_same (H := W) (a := t3) (o := .tup [V.str "write", V.str (tx wd)])
  have gt3 := gr_new (o := .tup [V.str "write", V.str (tx wd)]) gW' nt3
  have pt3 := gW'.rel.ne nt3
  have kt1 := st3 _ _ kt1
  have kt2 := st3 _ _ kt2
  have kl1 := st3 _ _ kl1
  generalize upd W t3 (.tup [V.str "write", V.str (tx wd)]) = A3 at *
  refine ⟨by show 1 ≤ sizeLine; decide, fun l2 nl2 => ?_⟩
  have sl2 := same_upd (o := .lst [V.ref t3]) nl2
  have kl2 := upd_same (H := A3) (a := l2) (o := .lst [V.ref t3])
  have gl2 := gr_new (o := .lst [V.ref t3]) gt3 nl2
  have pl2 := gt3.rel.ne nl2
  have kt1 := sl2 _ _ kt1
  have kt2 := sl2 _ _ kt2
  have kl1 := sl2 _ _ kl1
  have kt3 := sl2 _ _ kt3
  generalize upd A3 l2 (.lst [V.ref t3]) = A4 at *
  refine ⟨by show 2 ≤ sizeLine; decide, fun t4 nt4 => ?_⟩
  have st4 := same_upd (o := .tup [V.str "strike", V.int 1]) nt4
  have kt4 := upd_same (H := A4) (a := t4) (o := .tup [V.str "strike", V.int 1])
  have gt4 := gr_new (o := .tup [V.str "strike", V.int 1]) gl2 nt4
  have pt4 := gl2.rel.ne nt4
  have kt1 := st4 _ _ kt1
  have kt2 := st4 _ _ kt2
  have kl1 := st4 _ _ kl1
  have kt3 := st4 _ _ kt3
  have kl2 := st4 _ _ kl2
  generalize upd A4 t4 (.tup [V.str "strike", V.int 1]) = A5 at *
  refine ⟨by show 1 ≤ sizeLine; decide, fun l3 nl3 => ?_⟩
  have sl3 := same_upd (o := .lst [V.ref t4]) nl3
  have kl3 := upd_same (H := A5) (a := l3) (o := .lst [V.ref t4])
  have gl3 := gr_new (o := .lst [V.ref t4]) gt4 nl3
  have pl3 := gt4.rel.ne nl3
  have kt1 := sl3 _ _ kt1
  have kt2 := sl3 _ _ kt2
  have kl1 := sl3 _ _ kl1
  have kt3 := sl3 _ _ kt3
  have kl2 := sl3 _ _ kl2
  have kt4 := sl3 _ _ kt4
  generalize upd A5 l3 (.lst [V.ref t4]) = A6 at *
  refine ⟨by show 0 ≤ sizeLine; decide, fun l4 nl4 => ?_⟩
  have sl4 := same_upd (o := .lst []) nl4
  have kl4 := upd_same (H := A6) (a := l4) (o := .lst [])
  have gl4 := gr_new (o := .lst []) gl3 nl4
  have pl4 := gl3.rel.ne nl4
  have kt1 := sl4 _ _ kt1
  have kt2 := sl4 _ _ kt2
  have kl1 := sl4 _ _ kl1
  have kt3 := sl4 _ _ kt3
  have kl2 := sl4 _ _ kl2
  have kt4 := sl4 _ _ kt4
  have kl3 := sl4 _ _ kl3
  generalize upd A6 l4 (.lst []) = A7 at *
  refine ⟨by show 4 ≤ sizeLine; decide, fun L nL => ?_⟩
  have sL := same_upd (o := .lst [V.ref l1, V.ref l2, V.ref l3, V.ref l4]) nL
  have kL := upd_same (H := A7) (a := L) (o := .lst [V.ref l1, V.ref l2, V.ref l3, V.ref l4])
  have gL := gr_new (o := .lst [V.ref l1, V.ref l2, V.ref l3, V.ref l4]) gl4 nL
  have pL := gl4.rel.ne nL
  have kt1 := sL _ _ kt1
  have kt2 := sL _ _ kt2
  have kl1 := sL _ _ kl1
  have kt3 := sL _ _ kt3
  have kl2 := sL _ _ kl2
  have kt4 := sL _ _ kt4
  have kl3 := sL _ _ kl3
  have kl4 := sL _ _ kl4
  generalize upd A7 L (.lst [V.ref l1, V.ref l2, V.ref l3, V.ref l4]) = A8 at *
  refine ⟨_, rfl, p, 4, rfl, gL.rel, by decide, by decide, fun H1 r g1 r0 r4 => ?_⟩
  obtain ⟨v, hv, hve⟩ : ∃ v, atI [V.ref l1, V.ref l2, V.ref l3, V.ref l4] r = some v ∧ (v = .ref l1 ∨ v = .ref l2 ∨ v = .ref l3 ∨ v = .ref l4) := by
    have : r = 0 ∨ r = 1 ∨ r = 2 ∨ r = 3 := by omega
    rcases this with rfl | rfl | rfl | rfl
    · exact ⟨_, rfl, .inl rfl⟩
    · exact ⟨_, rfl, .inr (.inl rfl)⟩
    · exact ⟨_, rfl, .inr (.inr (.inl rfl))⟩
    · exact ⟨_, rfl, .inr (.inr (.inr rfl))⟩
  refine ix_lst (g1.keep _ _ pL kL) hv ?_
  have g1' := gL.trans g1
  obtain ⟨lx, ks, rfl, hLx, hok, hw⟩ : ∃ lx ks, v = .ref lx ∧ HandL p H1 lx ks ∧ (∀ k ∈ ks, k.ok) ∧ hwt ks ≤ 2 := by
    rcases hve with rfl | rfl | rfl | rfl
    · exact ⟨l1, [.copy 1, .paste], rfl, HandL.gr g1 ⟨pl1, _, kl1, .cons ⟨t1, rfl, pt1, kt1⟩ (.cons ⟨t2, rfl, pt2, kt2⟩ .nil)⟩, fun k hk => by simp only [List.mem_cons, List.not_mem_nil, or_false] at hk; rcases hk with rfl | rfl; exact Nat.le_refl 1; exact trivial, by decide⟩
    · exact ⟨l2, [.write wd], rfl, HandL.gr g1 ⟨pl2, _, kl2, .cons ⟨t3, rfl, pt3, kt3⟩ .nil⟩, fun k hk => by simp only [List.mem_cons, List.not_mem_nil, or_false] at hk; subst hk; exact ⟨fun e => by rw [e] at wl; simp at wl, by omega, wpl⟩, by show wd.length + 0 ≤ 2; omega⟩
    · exact ⟨l3, [.strike 1], rfl, HandL.gr g1 ⟨pl3, _, kl3, .cons ⟨t4, rfl, pt4, kt4⟩ .nil⟩, fun k hk => by simp only [List.mem_cons, List.not_mem_nil, or_false] at hk; subst hk; exact Nat.le_refl 1, by decide⟩
    · exact ⟨l4, [], rfl, HandL.gr g1 ⟨pl4, _, kl4, .nil⟩, (fun k hk => nomatch hk), by decide⟩
  clear kt1 kt2 kt3 kt4 kl1 kl2 kl3 kl4 kL hve
  refine fr_rng1 ?_
  walk_at "rd"
  refine ⟨_, rfl, p, 2, rfl, g1'.rel, by decide, by decide, fun H2 tn g2 tn0 tn2 => ⟨_, _, rfl, rfl, _, rfl, by omega, by omega, ?_⟩⟩
  have g2' := g1'.trans g2
  have hL2 := hLx.gr g2
  refine ForGo.range (fun i σ H' => ∃ (b : Nat) (lx : Addr) (ks : List Ky) (y3 y4 : Option V), σ = [some (.ref p), some (.ref lx), some (.int b), y3, y4] ∧ Gr p H H' ∧ HandL p H' lx ks ∧ (∀ k ∈ ks, k.ok) ∧ hwt ks ≤ 2 + 7 * i ∧ 2 * i ≤ b ∧ b ≤ 6 * i ∧ (1 ≤ i → 1 ≤ b))
    ⟨0, lx, ks, _, _, rfl, g2', hL2, hok, by omega, by omega, by omega, by omega⟩ ?_ ?_
  · rintro i σ H3 hi ⟨b, lx, ks, y3, y4, rfl, g3, hL3, hok3, hw3, hb1, hb2, hb3⟩
    have hi : i < 2 := by omega
    walk_at "rd"
    refine ⟨_, rfl, p, 5, rfl, g3.rel, by decide, by decide, fun H4 d g4 d0 d5 => ⟨_, _, rfl, rfl, ?_⟩⟩
    obtain ⟨d, rfl⟩ := Int.eq_ofNat_of_zero_le d0
    have g4' := g3.trans g4
    have hL4 := hL3.gr g4
    refine ⟨_, rfl, by show 2 ≤ sizeLine; decide, fun t1 n1 => ?_⟩
    have s1 := same_upd (o := .tup [V.str "cut", V.int 1]) n1
    have k1 := upd_same (H := H4) (a := t1) (o := .tup [V.str "cut", V.int 1])
    have p1 := g4'.rel.ne n1
    have g5 := gr_new (o := .tup [V.str "cut", V.int 1]) g4' n1
    generalize upd H4 t1 (.tup [V.str "cut", V.int 1]) = H5 at *
    refine ⟨_, rfl, _, _, rfl, rfl, by show 2 ≤ sizeLine; decide, fun t2 n2 => ?_⟩
    have e1 : (2 : Int) + (d : Int) - 1 = ((d + 1 : Nat) : Int) := by omega
    dsimp only
    rw [e1]
    have s2 := same_upd (o := .tup [V.str "right", V.int ((d + 1 : Nat) : Int)]) n2
    have k2 := upd_same (H := H5) (a := t2) (o := .tup [V.str "right", V.int ((d + 1 : Nat) : Int)])
    have p2 := g5.rel.ne n2
    have g6 := gr_new (o := .tup [V.str "right", V.int ((d + 1 : Nat) : Int)]) g5 n2
    generalize upd H5 t2 (.tup [V.str "right", V.int ((d + 1 : Nat) : Int)]) = H6 at *
    refine ⟨by show 1 ≤ sizeLine; decide, fun t3 n3 => ?_⟩
    have s3 := same_upd (o := .tup [V.str "paste"]) n3
    have k3 := upd_same (H := H6) (a := t3) (o := .tup [V.str "paste"])
    have p3 := g6.rel.ne n3
    have g7 := gr_new (o := .tup [V.str "paste"]) g6 n3
    have k1 := s3 _ _ (s2 _ _ k1)
    have k2 := s3 _ _ k2
    generalize upd H6 t3 (.tup [V.str "paste"]) = H7 at *
    refine ⟨by show 3 ≤ sizeLine; decide, fun l nl => ?_⟩
    have sl := same_upd (o := .lst [V.ref t1, V.ref t2, V.ref t3]) nl
    have kl := upd_same (H := H7) (a := l) (o := .lst [V.ref t1, V.ref t2, V.ref t3])
    have g8 := gr_new (o := .lst [V.ref t1, V.ref t2, V.ref t3]) g7 nl
    have hp3 : Paired (KeyT p (upd H7 l (.lst [V.ref t1, V.ref t2, V.ref t3]))) [V.ref t1, V.ref t2, V.ref t3] [.cut 1, .right (d + 1), .paste] :=
      .cons ⟨t1, rfl, p1, sl _ _ k1⟩ (.cons ⟨t2, rfl, p2, sl _ _ k2⟩ (.cons ⟨t3, rfl, p3, sl _ _ k3⟩ .nil))
    have s48 := (((s1.trans s2).trans s3).trans sl)
    generalize upd H7 l (.lst [V.ref t1, V.ref t2, V.ref t3]) = H8 at *
    obtain ⟨hlx, xs, hxs, hpx⟩ := hL4.mv fun b o _ e => s48 b o e
    have hxl : xs.length = ks.length := prd_len hpx
    have hkl := len_hwt hok3
    refine ⟨lx, l, xs, _, rfl, rfl, hxs, kl, Nat.le_trans (show xs.length + 3 ≤ 100 by omega) (by decide), fun D nD => ?_⟩
    refine ⟨_, rfl, _, rfl, _, _, rfl, rfl, ?_⟩
    refine ⟨b + (2 + d), D, ks ++ [.cut 1, .right (d + 1), .paste], some (.int (0 + i)), some (.int (2 + (d : Int))), ?_, gr_new g8 nD, HandL.cat g8.rel hxs hpx kl hp3 nD, fun k hk => ?_, ?_, by omega, by omega, by omega⟩
    · show _ = [some (V.ref p), some (.ref D), some (.int ((b + (2 + d) : Nat) : Int)), _, _]
      rw [show ((b + (2 + d) : Nat) : Int) = (b : Int) + (2 + (d : Int)) by omega]
      rfl
    · rcases List.mem_append.mp hk with h | h
      · exact hok3 k h
      · simp only [List.mem_cons, List.not_mem_nil, or_false] at h
        rcases h with rfl | rfl | rfl
        · exact Nat.le_refl 1
        · exact Nat.succ_le_succ (Nat.zero_le d)
        · exact trivial
    · rw [hwt_app]
      show hwt ks + (1 + (d + 1 + (1 + 0))) ≤ _
      omega
  · rintro σ H3 ⟨b, lx, ks, y3, y4, rfl, g3, hL3, hok3, hw3, hb1, hb2, hb3⟩
    walk_at "rd"
    have htn : tn.toNat = tn.toNat := rfl
    refine ⟨_, rfl, _, rfl, _, rfl, p, 2, rfl, g3.rel, by decide, by decide, fun H4 d g4 d0 d2 => ⟨_, _, rfl, rfl, ?_⟩⟩
    obtain ⟨d, rfl⟩ := Int.eq_ofNat_of_zero_le d0
    have e1 : (b : Int) + (d : Int) = ((b + d : Nat) : Int) := by omega
    dsimp only
    rw [e1]
    have g4' := g3.trans g4
    have hL4 := hL3.gr g4
    refine ⟨by show 2 ≤ sizeLine; decide, fun t1 n1 => ?_⟩
    have s1 := same_upd (o := .tup [V.str "left", V.int ((b + d : Nat) : Int)]) n1
    have k1 := upd_same (H := H4) (a := t1) (o := .tup [V.str "left", V.int ((b + d : Nat) : Int)])
    have p1 := g4'.rel.ne n1
    have g5 := gr_new (o := .tup [V.str "left", V.int ((b + d : Nat) : Int)]) g4' n1
    generalize upd H4 t1 (.tup [V.str "left", V.int ((b + d : Nat) : Int)]) = H5 at *
    refine ⟨by show 1 ≤ sizeLine; decide, fun l nl => ?_⟩
    have sl := same_upd (o := .lst [V.ref t1]) nl
    have kl := upd_same (H := H5) (a := l) (o := .lst [V.ref t1])
    have g8 := gr_new (o := .lst [V.ref t1]) g5 nl
    have hp1 : Paired (KeyT p (upd H5 l (.lst [V.ref t1]))) [V.ref t1] [.left (b + d)] := .cons ⟨t1, rfl, p1, sl _ _ k1⟩ .nil
    have s48 := s1.trans sl
    generalize upd H5 l (.lst [V.ref t1]) = H8 at *
    obtain ⟨hlx, xs, hxs, hpx⟩ := hL4.mv fun b o _ e => s48 b o e
    have hxl : xs.length = ks.length := prd_len hpx
    have hkl := len_hwt hok3
    refine ⟨lx, l, xs, _, rfl, rfl, hxs, kl, Nat.le_trans (show xs.length + 1 ≤ 100 by omega) (by decide), fun D nD => ?_⟩
    have nDp := g8.rel.nin nD
    refine q _ D (ks ++ [.left (b + d)]) (gr_new g8 nD) (g8.fr nDp.1 nD) (ninv nDp _ nDp) (HandL.cat g8.rel hxs hpx kl hp1 nD) (fun k hk => ?_) ?_
    · rcases List.mem_append.mp hk with h | h
      · exact hok3 k h
      · rw [List.mem_singleton.mp h]
        show 1 ≤ b + d
        have := hb3 (by omega)
        omega
    · rw [hwt_app]
      show hwt ks + (b + d + 0) ≤ 60
      omega
def spWtR : Sp := fun vs H Q _ => ∃ (p a : Addr) (ks : List Ky), vs = [.ref a] ∧ HandL p H a ks ∧ (∀ k ∈ ks, k.ok) ∧ ks.length ≤ 1000 ∧ ∀ H', Same H H' → Q (.int (hwt ks : Nat)) H'
theorem ok__law_weight (T : Txt K mg w) : FnOk P w K mg base CX0 1 T.f__law_weight.f T.f__law_weight.fd ["hand"] spWtR := by
  refine T.f__law_weight.F.ok sc__law_weight (fun vs H Q E h => ?_) (fun cdv A outer s H vs Q E hr h => ?_)
  · obtain ⟨p, a, ks, rfl, _⟩ := h
    rfl
  obtain ⟨p, a, ks, rfl, ⟨hap, xs, hxs, hpx⟩, hok, hl, q⟩ := h
  have hxl : xs.length = ks.length := prd_len hpx
  refine ⟨_, (pss_one (ps_ret (pe_callB (cr_sum rfl) (by rfl) T.b_sum (by decide +kernel) (pa_cons (pe_lc (own := [("key", 1)]) rfl sc__law_weight.nd (pi_list (pv 0)) (blkOk_by (own := [("key", 1)]) (N := N__law_weight) (sc := defScope s__law_weight) (by decide +kernel)) (fun _ _ _ _ _ => (pg_name (i := 1) sc__law_weight.nd rfl (.inl rfl))) (fun _ _ _ _ _ => pts_nil) (fun _ _ _ _ _ => (pe_ifExp (pt_cmpR op_eq (pe_ix (ix_seqK K) (pv 1) pe_int (fun _ _ => rfl)) pe_str (nomark _)) pe_int (pe_ifExp (pt_cmpR op_eq (pe_ix (ix_seqK K) (pv 1) pe_int (fun _ _ => rfl)) pe_str (nomark _)) (pe_callB (call_lenK K) (by rfl) T.b_len (by decide +kernel) (pa_cons (pe_ix (ix_seqK K) (pv 1) pe_int (fun _ _ => rfl)) pa_nil)) (pe_ix (ix_seqK K) (pv 1) pe_int (fun _ _ => rfl)))))) pa_nil)))), ?_⟩
  walk_at "rd"
  refine lc_lst ?_
  walk_at "rd"
  refine ⟨_, rfl, a, rfl, ⟨_, SqL.of hxs⟩, fun D nD => ?_⟩
  refine LcGo.list (a := a) (xs := xs) (fun i H' => Same H H' ∧ H' D = some (.lst (((ks.take i).map fun k => (k.wt : Int)).map V.int))) ⟨same_upd nD, upd_same⟩ (fun i H' _ h => SqL.of (h.1 _ _ hxs)) ?_ ?_
  · rintro i x H' hx ⟨s1, hD⟩
    obtain ⟨k, hk, b, rfl, hb, hbk⟩ := prd_at hpx hx
    have hi := (List.getElem?_eq_some_iff.mp hk).1
    have hrow : Row K H' b k.vs := .inr (SqT.of (s1 _ _ hbk))
    have hkk := hok k (List.mem_of_getElem? hk)
    have fin : ∀ n : Int, n = (k.wt : Int) → ∃ acc, H' D = some (.lst acc) ∧ acc.length < sizeLine ∧ Same H (upd H' D (.lst (acc ++ [V.int n]))) ∧ (upd H' D (.lst (acc ++ [V.int n]))) D = some (.lst (((ks.take (i + 1)).map fun k => (k.wt : Int)).map V.int)) := fun n hn => by
      refine ⟨_, hD, ?_, same_mut s1 nD, ?_⟩
      · rw [List.length_map, List.length_map, List.length_take]
        exact Nat.lt_of_le_of_lt (show min i ks.length ≤ 1000 by omega) (by decide)
      · rw [upd_same, List.take_add_one, hk, List.map_append, List.map_append, hn]
        rfl
    walk_at "rd"
    cases k with
    | paste => exact ⟨rfl, _, rfl, ix_row hrow (at_ofA (j := 0) rfl rfl) ⟨rfl, _, rfl, iteY (by decide) (fin 1 rfl)⟩⟩
    | write w => exact ⟨rfl, _, rfl, ix_row hrow (at_ofA (j := 0) rfl rfl) ⟨rfl, _, rfl, iteN (by decide) ⟨_, rfl, ix_row hrow (at_ofA (j := 0) rfl rfl) ⟨rfl, _, rfl, iteY (by decide) ⟨_, rfl, ix_row hrow (at_ofA (j := 1) rfl rfl) (len_tx (Nat.le_trans hkk.2.1 (by decide)) (fin _ rfl))⟩⟩⟩⟩⟩
    | left n | right n | strike n | rub n | copy n | cut n =>
      exact ⟨rfl, _, rfl, ix_row hrow (at_ofA (j := 0) rfl rfl) ⟨rfl, _, rfl, iteN (by decide) ⟨_, rfl, ix_row hrow (at_ofA (j := 0) rfl rfl) ⟨rfl, _, rfl, iteN (by decide) ⟨_, rfl, ix_row hrow (at_ofA (j := 1) rfl rfl) (fin _ rfl)⟩⟩⟩⟩⟩
  · rintro H' ⟨s1, hD⟩
    rw [hxl, List.take_length] at hD
    refine ⟨D, _, rfl, SqL.of hD, ?_⟩
    rw [hwt_sum]
    exact q _ s1
def spHandR : Sp := fun vs H Q _ => ∃ (p : Addr) (m : Nat), vs = [.ref p, .int m] ∧ Rel H p ∧ m ≤ 60 ∧ ∀ H' a ks, Gr p H H' → H a = none → Nin H' p a → HandL p H' a ks → (∀ k ∈ ks, k.ok) → hwt ks ≤ m → Q (.ref a) H'
theorem ok__law_hand (T : Txt K mg w) : FnOk P w K mg base CX0 4 T.f__law_hand.f T.f__law_hand.fd ["reel", "most"] spHandR := by
  refine T.f__law_hand.F.ok sc__law_hand (fun vs H Q E h => ?_) (fun cdv A outer s H vs Q E hr h => ?_)
  · obtain ⟨p, m, rfl, _⟩ := h
    rfl
  obtain ⟨p, m, rfl, hrel, hm, q⟩ := h
  refine ⟨_, (pss_cons (ps_set (i := 2) sc__law_hand.nd rfl (.inl rfl) (pe_call (ok__law_ring_hand T) (hr.mono (by decide)) (by rfl) T.f__law_ring_hand.g T.f__law_ring_hand.F.kp T.f__law_ring_hand.b .nil pass0 (pa_cons (pv 0) pa_nil)))
      (pss_cons (ps_if (PW.pt (pw_or (pt_cmpR op_gt (pe_call (ok__law_draw T) (hr.mono (by decide)) (by rfl) T.f__law_draw.g T.f__law_draw.F.kp T.f__law_draw.b .nil pass0 (pa_cons (pv 0) (pa_cons pe_int pa_nil))) pe_int (nomark _)) (pw_or1 (pt_cmpR op_gt (pe_call (ok__law_weight T) (hr.mono (by decide)) (by rfl) T.f__law_weight.g T.f__law_weight.F.kp T.f__law_weight.b .nil pass0 (pa_cons (pv 2) pa_nil)) (pv 1) (nomark _))))) (pss_one (ps_ret (pe_call (ok__law_any_hand T) (hr.mono (by decide)) (by rfl) T.f__law_any_hand.g T.f__law_any_hand.F.kp T.f__law_any_hand.b .nil pass0 (pa_cons (pv 0) (pa_cons (pv 1) pa_nil))))) pss_nil)
      (pss_one (ps_ret (pv 2))))), ?_⟩
  walk_at "rd"
  refine ⟨_, rfl, p, rfl, hrel, fun H1 a ks g1 na hn hL hok hw => ?_⟩
  have aA : H1 a ≠ none := by obtain ⟨_, xs, hx, _⟩ := hL; rw [hx]; exact fun z => by cases z
  refine ⟨_, rfl, p, 3, rfl, g1.rel, by decide, by decide, fun H2 r g2 r0 r3 => ⟨_, _, rfl, rfl, _, rfl, ?_⟩⟩
  have g2' := g1.trans g2
  have hL2 := hL.gr g2
  have hn2 := g2.nin a aA hn
  have hkl := len_hwt hok
  have any : ∀ H3, Gr p H H3 → ∃ (p_1 : Addr) (m_1 : Nat), [V.ref p, V.int (m : Int)] = [V.ref p_1, V.int (m_1 : Int)] ∧ Rel H3 p_1 ∧ m_1 ≤ 60 ∧ ∀ H' a ks, Gr p_1 H3 H' → H3 a = none → Nin H' p_1 a → HandL p_1 H' a ks → (∀ k ∈ ks, k.ok) → hwt ks ≤ m_1 → Q (.ref a) H' := fun H3 g3 =>
    ⟨p, m, rfl, g3.rel, hm, fun H' a ks g na hn hL hok hw => q H' a ks (g3.trans g) (g3.fr hn.1 na) hn hL hok hw⟩
  refine ite2 (fun _ => ?_) (fun _ => ?_)
  · exact ⟨_, rfl, _, rfl, any _ g2'⟩
  · refine ⟨_, rfl, p, a, ks, rfl, hL2, hok, by omega, fun H3 s3 => ⟨_, rfl, _, _, rfl, rfl, _, rfl, ?_⟩⟩
    have g3 := g2'.same s3
    refine ite2 (fun _ => ?_) (fun hle => ?_)
    · exact ⟨_, rfl, _, rfl, any _ g3⟩
    · have : ¬ ((m : Int) < ((hwt ks : Nat) : Int)) := fun h => hle (decide_eq_true h)
      exact ⟨_, rfl, q _ a ks g3 na ((Gr.of_same g2'.rel s3).nin a (fun z => by obtain ⟨_, xs, hx, _⟩ := hL2; rw [hx] at z; cases z) hn2) (hL2.mv fun b o _ e => s3 b o e) hok (by omega)⟩

def LenAt (K : PySem.W.Frag) (H : Hp) (v : V) (L R C : Nat) : Prop := ∃ a, v = .ref a ∧ Row K H a [.int L, .int R, .int C]
theorem LenAt.same {K : PySem.W.Frag} {H H' : Hp} {v : V} {L R C : Nat} (e : Same H H') (h : LenAt K H v L R C) : LenAt K H' v L R C := by
  obtain ⟨a, rfl, h⟩ := h
  exact ⟨a, rfl, h.same e⟩
theorem len_dt {K : PySem.W.Frag} {H : Hp} {v : V} {L R C : Nat} (h : LenAt K H v L R C) : ∃ d, At K H v d ∧ isRow d = true := by
  obtain ⟨a, rfl, h⟩ := h
  have hx : Ats K H [.int L, .int R, .int C] [.int L, .int R, .int C] := by
    unfold Ats
    refine ⟨_, _, rfl, by unfold At; rfl, ?_⟩
    unfold Ats
    refine ⟨_, _, rfl, by unfold At; rfl, ?_⟩
    unfold Ats
    exact ⟨_, _, rfl, by unfold At; rfl, by unfold Ats; rfl⟩
  rcases h with h | h
  · exact ⟨.lst [.int L, .int R, .int C], by unfold At; exact ⟨a, _, rfl, h, hx⟩, rfl⟩
  · exact ⟨.tup [.int L, .int R, .int C], by unfold At; exact ⟨a, _, rfl, h, hx⟩, rfl⟩
def spIsLen (K : PySem.W.Frag) : Sp := fun vs H Q _ => ∃ (v : V) (L R C : Nat), vs = [v] ∧ LenAt K H v L R C ∧ C ≤ 60 ∧ ∀ H', Same H H' → Q (.bl true) H'
theorem ok_is_lengths (T : Txt K mg w) : FnOk P w K mg base CX0 3 T.f_is_lengths.f T.f_is_lengths.fd ["thing"] (spIsLen K) := by
  refine T.f_is_lengths.F.ok sc_is_lengths (fun vs H Q E h => ?_) (fun cdv A outer s H vs Q E hr h => ?_)
  · obtain ⟨v, L, R, C, rfl, _⟩ := h
    rfl
  obtain ⟨v, L, R, C, rfl, hv, hC, q⟩ := h
  obtain ⟨d, hd, hd2⟩ := len_dt hv
  obtain ⟨u, rfl, hrow⟩ := hv
  refine ⟨_, (pss_cons (ps_if (PW.pt (pw_or (pt_not (pt_val (pe_call (ok_is_row T) (hr.mono (by decide)) (by rfl) T.f_is_row.g T.f_is_row.F.kp T.f_is_row.b .nil pass0 (pa_cons (pv 0) pa_nil)))) (pw_or1 (pt_cmpR op_ne (pe_callB (call_lenK K) (by rfl) T.b_len (by decide +kernel) (pa_cons (pv 0) pa_nil)) pe_int (nomark _))))) (pss_one (ps_ret pe_bl)) pss_nil)
      (pss_one (ps_ret (pe_and (pe_call (ok_is_whole T) (hr.mono (by decide)) (by rfl) T.f_is_whole.g T.f_is_whole.F.kp T.f_is_whole.b .nil pass0 (pa_cons (pe_ix ix_seq (pv 0) pe_int (fun _ _ => rfl)) (pa_cons pe_int pa_nil))) (pe_and (pe_call (ok_is_whole T) (hr.mono (by decide)) (by rfl) T.f_is_whole.g T.f_is_whole.F.kp T.f_is_whole.b .nil pass0 (pa_cons (pe_ix ix_seq (pv 0) pe_int (fun _ _ => rfl)) (pa_cons pe_int pa_nil))) (pe_one (pe_call (ok_is_within T) (hr.mono (by decide)) (by rfl) T.f_is_within.g T.f_is_within.F.kp T.f_is_within.b .nil pass0 (pa_cons (pe_ix ix_seq (pv 0) pe_int (fun _ _ => rfl)) (pa_cons pe_int (pa_cons (pe_c_LONGEST_WORD T) pa_nil)))))))))), ?_⟩
  walk_at "rd"
  refine ⟨_, rfl, _, d, rfl, hd, fun H1 s1 => ⟨_, rfl, ?_⟩⟩
  have hrow1 := hrow.same s1
  rw [hd2]
  refine iteN rfl ⟨_, rfl, len_row hrow1 ⟨rfl, _, rfl, iteN rfl ?_⟩⟩
  have wh : ∀ n : Nat, isWhole (.int n) 0 = true := fun n => by show decide ((0 : Int) ≤ (n : Int)) = true; exact decide_eq_true (by omega)
  refine ⟨_, rfl, ix_row hrow1 (at_ofA (j := 0) rfl rfl) ⟨_, .int L, 0, rfl, by unfold At; rfl, ?_⟩⟩
  rw [wh L]
  refine ⟨_, rfl, iteY rfl ⟨_, rfl, ix_row hrow1 (at_ofA (j := 1) rfl rfl) ⟨_, .int R, 0, rfl, by unfold At; rfl, ?_⟩⟩⟩
  rw [wh R]
  refine ⟨_, rfl, iteY rfl ⟨_, rfl, ix_row hrow1 (at_ofA (j := 2) rfl rfl) ⟨_, .int C, 0, 60, rfl, by unfold At; rfl, ?_⟩⟩⟩
  rw [show isWithin (.int C) 0 60 = true from by show (decide ((0 : Int) ≤ (C : Int)) && decide ((C : Int) ≤ 60)) = true; rw [decide_eq_true (by omega), decide_eq_true (by omega)]; rfl]
  exact q _ s1
def spCkLen (K : PySem.W.Frag) : Sp := fun vs H Q _ => ∃ (v : V) (L R C : Nat), vs = [v] ∧ LenAt K H v L R C ∧ C ≤ 60 ∧ ∀ H', Same H H' → Q .non H'
theorem ok_check_lengths (T : Txt K mg w) : FnOk P w K mg base CX0 4 T.f_check_lengths.f T.f_check_lengths.fd ["thing"] (spCkLen K) := by
  refine T.f_check_lengths.F.ok sc_check_lengths (fun vs H Q E h => ?_) (fun cdv A outer s H vs Q E hr h => ?_)
  · obtain ⟨v, L, R, C, rfl, _⟩ := h
    rfl
  obtain ⟨v, L, R, C, rfl, hv, hC, q⟩ := h
  refine ⟨_, (pss_one (ps_if (pt_not (pt_val (pe_call (ok_is_lengths T) (hr.mono (by decide)) (by rfl) T.f_is_lengths.g T.f_is_lengths.F.kp T.f_is_lengths.b .nil pass0 (pa_cons (pv 0) pa_nil)))) (pss_one ps_never) pss_nil)), ?_⟩
  walk_at "rd"
  exact ⟨_, rfl, v, L, R, C, rfl, hv, hC, fun H1 s1 => ⟨_, rfl, iteN rfl (q _ s1)⟩⟩
def spCkNear (K : PySem.W.Frag) : Sp := fun vs H Q _ => ∃ (v : V) (L R C : Nat), vs = [v] ∧ LenAt K H v L R C ∧ C ≤ 60 ∧ L ≤ 200 ∧ R ≤ 200 ∧ ∀ H', Same H H' → Q .non H'
theorem ok_check_near (T : Txt K mg w) : FnOk P w K mg base CX0 5 T.f_check_near.f T.f_check_near.fd ["thing"] (spCkNear K) := by
  refine T.f_check_near.F.ok sc_check_near (fun vs H Q E h => ?_) (fun cdv A outer s H vs Q E hr h => ?_)
  · obtain ⟨v, L, R, C, rfl, _⟩ := h
    rfl
  obtain ⟨v, L, R, C, rfl, hv, hC, hL, hR, q⟩ := h
  refine ⟨_, (pss_cons (ps_expr (pe_call (ok_check_lengths T) (hr.mono (by decide)) (by rfl) T.f_check_lengths.g T.f_check_lengths.F.kp T.f_check_lengths.b .nil pass0 (pa_cons (pv 0) pa_nil)))
      (pss_one (ps_if (pt_cmpR op_gt (pe_callB (call_max2 rfl) (by rfl) T.b_max (by decide +kernel) (pa_cons (pe_ix ix_seq (pv 0) pe_int (fun _ _ => rfl)) (pa_cons (pe_ix ix_seq (pv 0) pe_int (fun _ _ => rfl)) pa_nil))) (pe_c_LONGEST_SIDE T) (nomark _)) (pss_one ps_never) pss_nil))), ?_⟩
  walk_at "rd"
  refine ⟨_, rfl, v, L, R, C, rfl, hv, hC, fun H1 s1 => ?_⟩
  obtain ⟨u, rfl, hrow⟩ := hv.same s1
  refine ⟨_, rfl, ix_row hrow (at_ofA (j := 0) rfl rfl) ⟨_, rfl, ix_row hrow (at_ofA (j := 1) rfl rfl) ⟨_, _, rfl, _, _, rfl, rfl, _, rfl, iteN (decide_eq_false (by split <;> omega)) (q _ s1)⟩⟩⟩
/-! ### sources: letters by what they are told as -/
/-- a row of new things that are told so -/
def SrcL (H : Hp) (bs : List Nat) (srcs : List (List V)) : Prop := Paired (fun (b : Nat) s => H b = some (.tup s)) bs srcs
theorem SrcL.same {H H' : Hp} {bs : List Nat} {srcs : List (List V)} (e : Same H H') (h : SrcL H bs srcs) : SrcL H' bs srcs := prd_same (fun _ _ k => e _ _ k) h
theorem SrcL.app {H : Hp} : ∀ {as : List Nat} {xs : List (List V)} {bs : List Nat} {ys : List (List V)}, SrcL H as xs → SrcL H bs ys → SrcL H (as ++ bs) (xs ++ ys)
  | _, _, _, _, .nil, h => h
  | _, _, _, _, .cons r t, h => .cons r (SrcL.app t h)
def rowS (z : Str) (n : Nat) : List (List V) := (List.range n).map fun (d : Nat) => [.str z, .int d]
def spRowOf : Sp := fun vs H Q _ => ∃ (z : Str) (n : Nat), vs = [.str z, .int n] ∧ n ≤ 1000 ∧ ∀ H' D bs, Same H H' → H D = none → H' D = some (.lst (bs.map V.ref)) → SrcL H' bs (rowS z n) → Q (.ref D) H'
theorem ok_row_of (T : Txt K mg w) : FnOk P w K mg base CX0 1 T.f_row_of.f T.f_row_of.fd ["side", "many"] spRowOf := by
  refine T.f_row_of.F.ok sc_row_of (fun vs H Q E h => ?_) (fun cdv A outer s H vs Q E hr h => ?_)
  · obtain ⟨z, n, rfl, _⟩ := h
    rfl
  obtain ⟨z, n, rfl, hn, q⟩ := h
  refine ⟨_, (pss_one (ps_ret (pe_lc (own := [("deep", 2)]) rfl sc_row_of.nd (pi_range1 (by rfl) T.b_range (pa_cons (pv 1) pa_nil)) (blkOk_by (own := [("deep", 2)]) (N := N_row_of) (sc := defScope s_row_of) (by decide +kernel)) (fun _ _ _ _ _ => (pg_name (i := 2) sc_row_of.nd rfl (.inl rfl))) (fun _ _ _ _ _ => pts_nil) (fun _ _ _ _ _ => (pe_tup (pa_cons (pv 0) (pa_cons (pv 2) pa_nil))))))), ?_⟩
  walk_at "rd"
  refine lc_rng1 ?_
  walk_at "rd"
  refine ⟨_, rfl, _, rfl, by omega, by omega, fun D nD => ?_⟩
  refine LcGo.range (fun i H' => Same H H' ∧ ∃ bs : List Nat, H' D = some (.lst (bs.map V.ref)) ∧ bs.length = i ∧ SrcL (hid D H') bs (rowS z i)) ⟨same_upd nD, [], upd_same, rfl, .nil⟩ ?_ ?_
  · rintro i H2 hi ⟨s2, bs, hD, hbl, hbs⟩
    walk_at "rd"
    refine ⟨rfl, _, rfl, _, rfl, by show 2 ≤ sizeLine; decide, fun t nt => ?_⟩
    have htD : t ≠ D := fun e => by rw [e, hD] at nt; cases nt
    refine ⟨_, by rw [upd_ne htD.symm]; exact hD, Nat.lt_of_le_of_lt (show (bs.map V.ref).length ≤ 1000 by rw [List.length_map]; omega) (by decide), same_mut (s2.trans (same_upd nt)) nD, bs ++ [t], ?_, by rw [List.length_append, hbl]; rfl, ?_⟩
    · rw [upd_same, List.map_append]
      rfl
    · rw [hid_hid]
      unfold rowS
      rw [List.range_succ, List.map_append]
      refine SrcL.app (hbs.same (hid_mono (same_upd nt))) (.cons ?_ .nil)
      rw [hid_ne htD, upd_same]
      show some (HO.tup [V.str z, V.int (0 + (i : Int))]) = some (HO.tup [V.str z, V.int (i : Int)])
      rw [Int.zero_add]
  · rintro H2 ⟨s2, bs, hD, hbl, hbs⟩
    exact q _ D bs s2 nD hD (hbs.same (hid_same D _))

theorem fr_enum {K : PySem.W.Frag} {ta : TA} {g : TG} {tb : TS} {D : Ends} {σ : L2.St} {H : Hp} (h : ta σ H fun us H1 => ∃ a xs, us = [.ref a] ∧ SqL K H1 a xs ∧ ForGo (Ite K a) g tb D σ H1) : tFor (iEnum K ta) g tb D σ H := h
theorem ForGo.enum {K : PySem.W.Frag} {g : TG} {tb : TS} {D : Ends} {σ : L2.St} {H : Hp} {a : Addr} {xs : List V} (Pv : Nat → L2.St → Hp → Prop) (h0 : Pv 0 σ H) (hG : ∀ i σ H, i ≤ xs.length → Pv i σ H → SqL K H a xs)
    (hs : ∀ i x σ H T, xs[i]? = some x → H T = none → Pv i σ H → g (.ref T) σ (upd H T (.tup [.int (i : Nat), x])) fun σ2 H2 => tb { D with nx := Pv (i + 1), ct := Pv (i + 1), bk := D.nx } σ2 H2) (hd : ∀ σ H, Pv xs.length σ H → D.nx σ H) : ForGo (Ite K a) g tb D σ H :=
  for_it (walk_enum (K := K) (a := a) (xs := xs)) Pv h0 hG (fun i v σ H H' hi p ⟨T, x, y, e1, e2, e3, e4, e5⟩ => by
    subst e1 e3
    have e4 := Option.some.inj e4
    subst e4
    exact hs i y σ H T e5 e2 p) hd
def srcF (c : Nat) : List V := [.str "typed", .int (c / 1000 : Nat), .int (c % 1000 : Nat)]
def ckey (n : Nat) : Ky → Ky
  | .write w => .write ((List.range w.length).map fun i => 1000 * n + i)
  | k => k
def ckeys : Nat → List Ky → List Ky
  | _, [] => []
  | n, k :: ks => ckey n k :: ckeys (n + 1) ks
def rowT (n len : Nat) : List (List V) := (List.range len).map fun (i : Nat) => [.str "typed", .int n, .int i]
theorem rowT_f {n len : Nat} (h : len ≤ 60) : ((List.range len).map fun i => 1000 * n + i).map srcF = rowT n len := by
  unfold rowT
  rw [List.map_map]
  refine List.map_congr_left fun i hi => ?_
  have hi := List.mem_range.mp hi
  show srcF (1000 * n + i) = _
  unfold srcF
  rw [show (1000 * n + i) / 1000 = n by omega, show (1000 * n + i) % 1000 = i by omega]
def TKey (H : Hp) (n : Nat) (k k' : Ky) : Prop := (∃ w bs, k = .write w ∧ k' = .write bs ∧ SrcL H bs (rowT n w.length)) ∨ ((∀ w, k ≠ .write w) ∧ k' = k)
def TKeys (H : Hp) : Nat → List Ky → List Ky → Prop
  | _, [], [] => True
  | n, k :: ks, k' :: js => TKey H n k k' ∧ TKeys H (n + 1) ks js
  | _, _, _ => False
theorem TKey.same {H H' : Hp} {n : Nat} {k k' : Ky} (e : Same H H') (h : TKey H n k k') : TKey H' n k k' := by
  rcases h with ⟨w, bs, h1, h2, h3⟩ | h
  · exact .inl ⟨w, bs, h1, h2, h3.same e⟩
  · exact .inr h
theorem TKeys.same {H H' : Hp} (e : Same H H') : ∀ {n : Nat} {ks js : List Ky}, TKeys H n ks js → TKeys H' n ks js
  | _, [], [], _ => trivial
  | _, k :: ks, k' :: js, h => ⟨h.1.same e, TKeys.same e h.2⟩
  | _, [], _ :: _, h => h.elim
  | _, _ :: _, [], h => h.elim
theorem TKeys.snoc {H : Hp} : ∀ {n : Nat} {ks js : List Ky} {k k' : Ky}, TKeys H n ks js → TKey H (n + ks.length) k k' → TKeys H n (ks ++ [k]) (js ++ [k'])
  | n, [], [], k, k', _, h => ⟨h, trivial⟩
  | n, a :: ks, b :: js, k, k', h, hk => ⟨h.1, TKeys.snoc (n := n + 1) h.2 (by rw [show n + 1 + ks.length = n + (a :: ks).length by rw [List.length_cons]; omega]; exact hk)⟩
  | _, [], _ :: _, _, _, h, _ => h.elim
  | _, _ :: _, [], _, _, h, _ => h.elim
theorem SrcKey.same {K : PySem.W.Frag} {H H' : Hp} {f : Nat → V} {kv : V} {k : Ky} (e : Same H H') (h : SrcKey K H f kv k) : SrcKey K H' f kv k := by
  rcases h with ⟨w, u, l, h1, h2, h3, h4, h5⟩ | ⟨h1, h2⟩
  · exact .inl ⟨w, u, l, h1, h2, h3.same e, h4.same e, h5⟩
  · exact .inr ⟨h1.same e, h2⟩
def spSourced (K : PySem.W.Frag) : Sp := fun vs H Q _ => ∃ (p a : Addr) (ks : List Ky), vs = [.ref a] ∧ HandL p H a ks ∧ GoodH ks ∧
  ∀ H' D ys js, Same H H' → H D = none → H' D = some (.lst ys) → Paired (SrcKey K H' V.ref) ys js → TKeys H' 0 ks js → Q (.ref D) H'
theorem ok_sourced (T : Txt K mg w) : FnOk P w K mg base CX0 1 T.f_sourced.f T.f_sourced.fd ["hand"] (spSourced K) := by
  refine T.f_sourced.F.ok sc_sourced (fun vs H Q E h => ?_) (fun cdv A outer s H vs Q E hr h => ?_)
  · obtain ⟨p, a, ks, rfl, _⟩ := h
    rfl
  obtain ⟨p, a, ks, rfl, ⟨hap, xs, hxs, hpx⟩, gk, q⟩ := h
  have hxl : xs.length = ks.length := prd_len hpx
  have hfew := gk.few
  refine ⟨_, (pss_cons (ps_set (i := 1) sc_sourced.nd rfl (.inl rfl) (pe_lst pa_nil))
      (pss_cons (ps_for PassesOwn.never rfl (pi_enum (by rfl) T.b_enumerate (pa_cons (pv 0) pa_nil)) (pg_tup rfl (pgs_cons (pg_name (i := 2) sc_sourced.nd rfl (.inr rfl)) (pgs_cons (pg_name (i := 3) sc_sourced.nd rfl (.inl rfl)) pgs_nil)))
        (pss_one (ps_if (pt_cmpR op_eq (pe_ix ix_seq (pv 3) pe_int (fun _ _ => rfl)) pe_str (nomark _)) (pss_one (ps_expr (pe_bm PySem.F.plainAttrs_list PySem.F.slot_list_append PySem.F.type_list_append mt_append (pv 1) (pa_cons (pe_tup (pa_cons pe_str (pa_cons (pe_lc (own := [("at", 4)]) rfl sc_sourced.nd (pi_range1 (by rfl) T.b_range (pa_cons (pe_callB (call_lenK K) (by rfl) T.b_len (by decide +kernel) (pa_cons (pe_ix ix_seq (pv 3) pe_int (fun _ _ => rfl)) pa_nil)) pa_nil)) (blkOk_by (own := [("at", 4)]) (N := N_sourced) (sc := defScope s_sourced) (by decide +kernel)) (fun _ _ _ _ _ => (pg_name (i := 4) sc_sourced.nd rfl (.inl rfl))) (fun _ _ _ _ _ => pts_nil) (fun _ _ _ _ _ => (pe_tup (pa_cons pe_str (pa_cons (pv 2) (pa_cons (pv 4) pa_nil)))))) pa_nil))) pa_nil)))) (pss_one (ps_expr (pe_bm PySem.F.plainAttrs_list PySem.F.slot_list_append PySem.F.type_list_append mt_append (pv 1) (pa_cons (pv 3) pa_nil)))))))
      (pss_one (ps_ret (pv 1))))), ?_⟩
  walk_at "rd"
  refine ⟨by show 0 ≤ sizeLine; decide, fun D nD => fr_enum ?_⟩
  walk_at "rd"
  have sD := same_upd (o := .lst []) nD
  have hD0 := upd_same (H := H) (a := D) (o := .lst [])
  generalize hH0 : upd H D (.lst []) = H0 at *
  refine ⟨_, rfl, a, xs, rfl, SqL.of (sD _ _ hxs), ForGo.enum (fun i σ H' => ∃ y2 y3 y4 ys js, σ = [some (.ref a), some (.ref D), y2, y3, y4] ∧ Same H H' ∧ H' D = some (.lst ys) ∧ ys.length = i ∧ Paired (SrcKey K (hid D H') V.ref) ys js ∧ TKeys (hid D H') 0 (ks.take i) js)
    ⟨_, _, _, [], [], rfl, sD, hD0, rfl, .nil, trivial⟩ (fun i σ H' _ ⟨_, _, _, _, _, _, s1, _⟩ => SqL.of (s1 _ _ hxs)) ?_ ?_⟩
  · rintro i x σ H2 t hx nt ⟨y2, y3, y4, ys, js, rfl, s2, hD2, hyl, hys, hjs⟩
    obtain ⟨k, hk, b, rfl, hb, hbk⟩ := prd_at hpx hx
    have hi := (List.getElem?_eq_some_iff.mp hk).1
    have e4 : ks.take (i + 1) = ks.take i ++ [k] := by rw [List.take_add_one, hk]; rfl
    have etl : (ks.take i).length = i := by rw [List.length_take]; omega
    have hbD : b ≠ D := fun z => by rw [z, nD] at hbk; cases hbk
    have htD : t ≠ D := fun z => by rw [z, hD2] at nt; cases nt
    have st := same_upd (o := .tup [.int (i : Nat), .ref b]) nt
    have kt := upd_same (H := H2) (a := t) (o := .tup [.int (i : Nat), .ref b])
    have s3 := s2.trans st
    have hD3 := st _ _ hD2
    have hys3 := prd_same (fun _ _ h => SrcKey.same (hid_mono (p := D) st) h) hys
    have hjs3 := hjs.same (hid_mono (p := D) st)
    generalize upd H2 t (.tup [.int (i : Nat), .ref b]) = H3 at *
    walk_at "rd"
    refine ⟨t, _, rfl, SqT.of kt, rfl, _, _, rfl, _, _, rfl, rfl, ?_⟩
    have hbk3 := s3 _ _ hbk
    have fin : ∀ (H4 : Hp) (v : V) (k' : Ky), Same H3 H4 → SrcKey K (hid D H4) V.ref v k' → TKey (hid D H4) i k k' → v ≠ .ref D → ∃ acc, H4 D = some (.lst acc) ∧ acc.length < sizeLine ∧ Same H (upd H4 D (.lst (acc ++ [v]))) ∧ (upd H4 D (.lst (acc ++ [v]))) D = some (.lst (acc ++ [v])) ∧ (acc ++ [v]).length = i + 1 ∧ Paired (SrcKey K (hid D (upd H4 D (.lst (acc ++ [v])))) V.ref) (acc ++ [v]) (js ++ [k']) ∧ TKeys (hid D (upd H4 D (.lst (acc ++ [v])))) 0 (ks.take (i + 1)) (js ++ [k']) := fun H4 v k' s4 hsk htk _ => by
      refine ⟨ys, s4 _ _ hD3, Nat.lt_of_le_of_lt (show ys.length ≤ 60 by omega) (by decide), same_mut (s3.trans s4) nD, upd_same, by rw [List.length_append, hyl]; rfl, ?_, ?_⟩
      · rw [hid_hid]
        exact prd_app (prd_same (fun _ _ h => SrcKey.same (hid_mono (p := D) s4) h) hys3) (.cons hsk .nil)
      · rw [hid_hid, e4]
        exact TKeys.snoc (hjs3.same (hid_mono (p := D) s4)) (by rw [etl, Nat.zero_add]; exact htk)
    refine ⟨_, rfl, ix_row (.inr (SqT.of hbk3)) (at_ofA (j := 0) rfl (vs_0 k)) ⟨rfl, _, rfl, ?_⟩⟩
    cases hkw : k with
    | write w =>
      subst hkw
      have hwl : w.length ≤ 60 := (gk.ok _ (List.mem_of_getElem? hk)).2.1
      refine iteY (decide_eq_true rfl) ⟨_, rfl, .inl ⟨rfl, _, SqL.of hD3⟩, lc_rng1 ?_⟩
      walk_at "rd"
      refine ⟨_, rfl, ix_row (.inr (SqT.of hbk3)) (at_ofA (j := 1) rfl rfl) (len_tx (by omega) ⟨_, rfl, by omega, by omega, fun L nL => ?_⟩)⟩
      have hLD : L ≠ D := fun z => by rw [z, hD3] at nL; cases nL
      refine LcGo.range (fun j H' => Same H3 H' ∧ ∃ bs : List Nat, H' L = some (.lst (bs.map V.ref)) ∧ bs.length = j ∧ SrcL (hid L (hid D H')) bs (rowT i j)) ⟨same_upd nL, [], upd_same, rfl, .nil⟩ ?_ ?_
      · rintro j H4 hj ⟨s4, bs, hL, hbl, hbs⟩
        walk_at "rd"
        refine ⟨rfl, _, rfl, _, rfl, by show 3 ≤ sizeLine; decide, fun t2 nt2 => ?_⟩
        have htL : t2 ≠ L := fun e => by rw [e, hL] at nt2; cases nt2
        have ht2D : t2 ≠ D := fun e => by rw [e, s4 _ _ hD3] at nt2; cases nt2
        have hjw : j < w.length := by omega
        refine ⟨_, by rw [upd_ne htL.symm]; exact hL, Nat.lt_of_le_of_lt (show (bs.map V.ref).length ≤ 60 by rw [List.length_map]; omega) (by decide), same_mut (s4.trans (same_upd nt2)) nL, bs ++ [t2], ?_, by rw [List.length_append, hbl]; rfl, ?_⟩
        · rw [upd_same, List.map_append]
          rfl
        · rw [hid_upd hLD, hid_hid]
          unfold rowT
          rw [List.range_succ, List.map_append]
          refine SrcL.app (hbs.same (hid_mono (hid_mono (same_upd nt2)))) (.cons ?_ .nil)
          rw [hid_ne htL, hid_ne ht2D, upd_same]
          show some (HO.tup [V.str "typed", V.int (i : Int), V.int (0 + (j : Int))]) = some (HO.tup [V.str "typed", V.int (i : Int), V.int (j : Int)])
          rw [Int.zero_add]
      · rintro H4 ⟨s4, bs, hL, hbl, hbs⟩
        have hbl : bs.length = w.length := by rw [hbl]; rw [Int.toNat_natCast]
        rw [Int.toNat_natCast] at hbs
        refine ⟨by show 2 ≤ sizeLine; decide, fun u nu => ?_⟩
        have huD : u ≠ D := fun e => by rw [e, s4 _ _ hD3] at nu; cases nu
        have su := same_upd (o := .tup [V.str "write", V.ref L]) nu
        have hbsD : SrcL (hid D (upd H4 u (.tup [V.str "write", V.ref L]))) bs (rowT i w.length) := (hbs.same (hid_same L _)).same (hid_mono su)
        obtain ⟨acc, f1, f2, f3, f4, f5, f6, f7⟩ := fin (upd H4 u (.tup [V.str "write", V.ref L])) (.ref u) (.write bs) (s4.trans su)
          (.inl ⟨bs, u, L, rfl, rfl, .inr (SqT.of (by rw [hid_ne huD, upd_same])), .inl (SqL.of (by rw [hid_ne hLD]; exact su _ _ hL)), by omega⟩) (.inl ⟨w, bs, rfl, rfl, hbsD⟩) (fun z => huD (by injection z))
        exact ⟨D, acc, _, rfl, rfl, f1, f2, _, _, _, _, _, rfl, f3, f4, f5, f6, f7⟩
    | paste =>
      subst hkw
      refine iteN (decide_eq_false (fun e => absurd (V.str.inj e) (by simp only [Ky.kn]; decide))) ⟨_, rfl, .inl ⟨rfl, _, SqL.of hD3⟩, _, rfl, ?_⟩
      have hkb : KeyAt K (hid D H3) (.ref b) .paste := ⟨b, rfl, .inr (SqT.of (by rw [hid_ne hbD]; exact hbk3))⟩
      obtain ⟨acc, f1, f2, f3, f4, f5, f6, f7⟩ := fin H3 (.ref b) .paste (Same.refl _) (.inr ⟨hkb, gk.ok _ (List.mem_of_getElem? hk), (fun w e => by cases e)⟩) (.inr ⟨(fun w e => by cases e), rfl⟩) (fun z => hbD (by injection z))
      exact ⟨D, acc, _, rfl, rfl, f1, f2, _, _, _, _, _, rfl, f3, f4, f5, f6, f7⟩
    | left n =>
      subst hkw
      refine iteN (decide_eq_false (fun e => absurd (V.str.inj e) (by simp only [Ky.kn]; decide))) ⟨_, rfl, .inl ⟨rfl, _, SqL.of hD3⟩, _, rfl, ?_⟩
      have hkb : KeyAt K (hid D H3) (.ref b) (.left n) := ⟨b, rfl, .inr (SqT.of (by rw [hid_ne hbD]; exact hbk3))⟩
      obtain ⟨acc, f1, f2, f3, f4, f5, f6, f7⟩ := fin H3 (.ref b) (.left n) (Same.refl _) (.inr ⟨hkb, gk.ok _ (List.mem_of_getElem? hk), (fun w e => by cases e)⟩) (.inr ⟨(fun w e => by cases e), rfl⟩) (fun z => hbD (by injection z))
      exact ⟨D, acc, _, rfl, rfl, f1, f2, _, _, _, _, _, rfl, f3, f4, f5, f6, f7⟩
    | right n =>
      subst hkw
      refine iteN (decide_eq_false (fun e => absurd (V.str.inj e) (by simp only [Ky.kn]; decide))) ⟨_, rfl, .inl ⟨rfl, _, SqL.of hD3⟩, _, rfl, ?_⟩
      have hkb : KeyAt K (hid D H3) (.ref b) (.right n) := ⟨b, rfl, .inr (SqT.of (by rw [hid_ne hbD]; exact hbk3))⟩
      obtain ⟨acc, f1, f2, f3, f4, f5, f6, f7⟩ := fin H3 (.ref b) (.right n) (Same.refl _) (.inr ⟨hkb, gk.ok _ (List.mem_of_getElem? hk), (fun w e => by cases e)⟩) (.inr ⟨(fun w e => by cases e), rfl⟩) (fun z => hbD (by injection z))
      exact ⟨D, acc, _, rfl, rfl, f1, f2, _, _, _, _, _, rfl, f3, f4, f5, f6, f7⟩
    | strike n =>
      subst hkw
      refine iteN (decide_eq_false (fun e => absurd (V.str.inj e) (by simp only [Ky.kn]; decide))) ⟨_, rfl, .inl ⟨rfl, _, SqL.of hD3⟩, _, rfl, ?_⟩
      have hkb : KeyAt K (hid D H3) (.ref b) (.strike n) := ⟨b, rfl, .inr (SqT.of (by rw [hid_ne hbD]; exact hbk3))⟩
      obtain ⟨acc, f1, f2, f3, f4, f5, f6, f7⟩ := fin H3 (.ref b) (.strike n) (Same.refl _) (.inr ⟨hkb, gk.ok _ (List.mem_of_getElem? hk), (fun w e => by cases e)⟩) (.inr ⟨(fun w e => by cases e), rfl⟩) (fun z => hbD (by injection z))
      exact ⟨D, acc, _, rfl, rfl, f1, f2, _, _, _, _, _, rfl, f3, f4, f5, f6, f7⟩
    | rub n =>
      subst hkw
      refine iteN (decide_eq_false (fun e => absurd (V.str.inj e) (by simp only [Ky.kn]; decide))) ⟨_, rfl, .inl ⟨rfl, _, SqL.of hD3⟩, _, rfl, ?_⟩
      have hkb : KeyAt K (hid D H3) (.ref b) (.rub n) := ⟨b, rfl, .inr (SqT.of (by rw [hid_ne hbD]; exact hbk3))⟩
      obtain ⟨acc, f1, f2, f3, f4, f5, f6, f7⟩ := fin H3 (.ref b) (.rub n) (Same.refl _) (.inr ⟨hkb, gk.ok _ (List.mem_of_getElem? hk), (fun w e => by cases e)⟩) (.inr ⟨(fun w e => by cases e), rfl⟩) (fun z => hbD (by injection z))
      exact ⟨D, acc, _, rfl, rfl, f1, f2, _, _, _, _, _, rfl, f3, f4, f5, f6, f7⟩
    | copy n =>
      subst hkw
      refine iteN (decide_eq_false (fun e => absurd (V.str.inj e) (by simp only [Ky.kn]; decide))) ⟨_, rfl, .inl ⟨rfl, _, SqL.of hD3⟩, _, rfl, ?_⟩
      have hkb : KeyAt K (hid D H3) (.ref b) (.copy n) := ⟨b, rfl, .inr (SqT.of (by rw [hid_ne hbD]; exact hbk3))⟩
      obtain ⟨acc, f1, f2, f3, f4, f5, f6, f7⟩ := fin H3 (.ref b) (.copy n) (Same.refl _) (.inr ⟨hkb, gk.ok _ (List.mem_of_getElem? hk), (fun w e => by cases e)⟩) (.inr ⟨(fun w e => by cases e), rfl⟩) (fun z => hbD (by injection z))
      exact ⟨D, acc, _, rfl, rfl, f1, f2, _, _, _, _, _, rfl, f3, f4, f5, f6, f7⟩
    | cut n =>
      subst hkw
      refine iteN (decide_eq_false (fun e => absurd (V.str.inj e) (by simp only [Ky.kn]; decide))) ⟨_, rfl, .inl ⟨rfl, _, SqL.of hD3⟩, _, rfl, ?_⟩
      have hkb : KeyAt K (hid D H3) (.ref b) (.cut n) := ⟨b, rfl, .inr (SqT.of (by rw [hid_ne hbD]; exact hbk3))⟩
      obtain ⟨acc, f1, f2, f3, f4, f5, f6, f7⟩ := fin H3 (.ref b) (.cut n) (Same.refl _) (.inr ⟨hkb, gk.ok _ (List.mem_of_getElem? hk), (fun w e => by cases e)⟩) (.inr ⟨(fun w e => by cases e), rfl⟩) (fun z => hbD (by injection z))
      exact ⟨D, acc, _, rfl, rfl, f1, f2, _, _, _, _, _, rfl, f3, f4, f5, f6, f7⟩
  · rintro σ H2 ⟨y2, y3, y4, ys, js, rfl, s2, hD2, hyl, hys, hjs⟩
    walk_at "rd"
    rw [hxl, List.take_length] at hjs
    exact ⟨_, rfl, q _ D ys js s2 nD hD2 (prd_same (fun _ _ h => SrcKey.same (hid_same D _) h) hys) (hjs.same (hid_same D _))⟩

section
variable {α β : Type} {R : α → β → Prop}
theorem prd_take : ∀ {xs : List α} {ys : List β} (n : Nat), Paired R xs ys → Paired R (xs.take n) (ys.take n)
  | _, _, 0, _ => by rw [List.take_zero, List.take_zero]; exact .nil
  | _, _, n + 1, .nil => .nil
  | _, _, n + 1, .cons r t => .cons r (prd_take n t)
theorem prd_drop : ∀ {xs : List α} {ys : List β} (n : Nat), Paired R xs ys → Paired R (xs.drop n) (ys.drop n)
  | _, _, 0, h => h
  | _, _, n + 1, .nil => .nil
  | _, _, n + 1, .cons r t => prd_drop n t
theorem prd_rev : ∀ {xs : List α} {ys : List β}, Paired R xs ys → Paired R xs.reverse ys.reverse
  | _, _, .nil => .nil
  | _, _, .cons r t => by
    rw [List.reverse_cons, List.reverse_cons]
    exact prd_app (prd_rev t) (.cons r .nil)
theorem prd_near {xs : List α} {ys : List β} (n : Nat) (h : Paired R xs ys) : Paired R (near xs n) (near ys n) := by
  unfold near
  rw [prd_len h]
  exact prd_rev (prd_drop _ h)
theorem prd_rest {xs : List α} {ys : List β} (n : Nat) (h : Paired R xs ys) : Paired R (rest xs n) (rest ys n) := by
  unfold rest
  rw [prd_len h]
  exact prd_take _ h
structure SdR (R : α → β → Prop) (s : Sd α) (s' : Sd β) : Prop where
  l : Paired R s.l s'.l
  r : Paired R s.r s'.r
  c : Paired R s.c s'.c
def KyR (R : α → β → Prop) (f : Nat → α) (f' : Nat → β) (k k' : Ky) : Prop := (∃ w w', k = .write w ∧ k' = .write w' ∧ Paired R (w.map f) (w'.map f')) ∨ ((∀ w, k ≠ .write w) ∧ k = k')
theorem step_rel {f : Nat → α} {f' : Nat → β} {k k' : Ky} {s : Sd α} {s' : Sd β} (hk : KyR R f f' k k') (h : SdR R s s') : SdR R (step f k s) (step f' k' s') := by
  rcases hk with ⟨w, w', rfl, rfl, hw⟩ | ⟨hn, rfl⟩
  · exact ⟨prd_app h.l hw, h.r, h.c⟩
  · cases k with
    | write w => exact absurd rfl (hn w)
    | paste => exact ⟨prd_app h.l h.c, h.r, h.c⟩
    | left n => exact ⟨prd_rest n h.l, prd_app h.r (prd_near n h.l), h.c⟩
    | right n => exact ⟨prd_app h.l (prd_near n h.r), prd_rest n h.r, h.c⟩
    | strike n => exact ⟨h.l, prd_rest n h.r, h.c⟩
    | rub n => exact ⟨prd_rest n h.l, h.r, h.c⟩
    | copy n => exact ⟨h.l, h.r, prd_near n h.r⟩
    | cut n => exact ⟨h.l, prd_rest n h.r, prd_near n h.r⟩
theorem steps_rel {f : Nat → α} {f' : Nat → β} : ∀ {ks ks' : List Ky} {s : Sd α} {s' : Sd β}, Paired (KyR R f f') ks ks' → SdR R s s' → SdR R (steps f ks s) (steps f' ks' s')
  | _, _, _, _, .nil, h => h
  | _, _, s, s', .cons r t, h => by
    rw [steps_cons, steps_cons]
    exact steps_rel t (step_rel r h)
end
/-- where letters come from behind one pressing -/
def tab (ks : List Ky) (L R C : Nat) : Sd (List V) := steps srcF (ckeys 0 ks) ⟨(rowS "left" L).reverse, (rowS "right" R).reverse, rowS "clip" C⟩
def LA (H : Hp) (a : Addr) (srcs : List (List V)) : Prop := ∃ bs : List Nat, H a = some (.lst (bs.map V.ref)) ∧ SrcL H bs srcs
def TabAt (H : Hp) (t : Addr) (T : Sd (List V)) : Prop := ∃ a1 a2 a3, H t = some (.tup [.ref a1, .ref a2, .ref a3]) ∧ LA H a1 T.l.reverse ∧ LA H a2 T.r.reverse ∧ LA H a3 T.c
theorem LA.same {H H' : Hp} {a : Addr} {srcs : List (List V)} (e : Same H H') (h : LA H a srcs) : LA H' a srcs := by
  obtain ⟨bs, h1, h2⟩ := h
  exact ⟨bs, e _ _ h1, h2.same e⟩
theorem TabAt.same {H H' : Hp} {t : Addr} {T : Sd (List V)} (e : Same H H') (h : TabAt H t T) : TabAt H' t T := by
  obtain ⟨a1, a2, a3, h1, h2, h3, h4⟩ := h
  exact ⟨a1, a2, a3, e _ _ h1, h2.same e, h3.same e, h4.same e⟩
theorem tkeys_rel {H : Hp} : ∀ {n : Nat} {ks js : List Ky}, TKeys H n ks js → (∀ k ∈ ks, k.wt ≤ 60) → Paired (KyR (fun (b : Nat) s => H b = some (.tup s)) id srcF) js (ckeys n ks) ∧ (∀ k ∈ js, k.wt ≤ 60) ∧ js.length = ks.length
  | _, [], [], _, _ => ⟨.nil, (fun k hk => nomatch hk), rfl⟩
  | n, k :: ks, k' :: js, h, hw => by
    obtain ⟨h1, h2⟩ := h
    obtain ⟨r1, r2, r3⟩ := tkeys_rel h2 fun x hx => hw x (List.mem_cons_of_mem _ hx)
    have hk := hw k (List.mem_cons_self ..)
    refine ⟨.cons ?_ r1, fun x hx => ?_, by rw [List.length_cons, List.length_cons, r3]⟩
    · rcases h1 with ⟨w, bs, rfl, rfl, hb⟩ | ⟨hn, rfl⟩
      · exact .inl ⟨bs, _, rfl, rfl, by rw [rowT_f (show w.length ≤ 60 from hk), List.map_id]; exact hb⟩
      · refine .inr ⟨hn, ?_⟩
        cases k' with
        | write w => exact absurd rfl (hn w)
        | _ => rfl
    · rcases List.mem_cons.mp hx with rfl | hx
      · rcases h1 with ⟨w, bs, rfl, rfl, hb⟩ | ⟨hn, rfl⟩
        · have := prd_len hb
          unfold rowT at this
          rw [List.length_map, List.length_range] at this
          show bs.length ≤ 60
          rw [this]
          exact hk
        · exact hk
      · exact r2 x hx
  | _, [], _ :: _, h, _ => h.elim
  | _, _ :: _, [], h, _ => h.elim
theorem rowS_len (z : Str) (n : Nat) : (rowS z n).length = n := by unfold rowS; rw [List.length_map, List.length_range]
def spTrace (K : PySem.W.Frag) : Sp := fun vs H Q _ => ∃ (a : Addr) (ys : List V) (js ks : List Ky) (v : V) (L R C : Nat), vs = [.ref a, v] ∧ H a = some (.lst ys) ∧ Paired (SrcKey K H V.ref) ys js ∧ TKeys H 0 ks js ∧ GoodH ks ∧ LenAt K H v L R C ∧ L ≤ 200 ∧ R ≤ 200 ∧ C ≤ 60 ∧
  ∀ H' t, Same H H' → TabAt H' t (tab ks L R C) → Q (.ref t) H'
theorem ok_trace (T : Txt K mg w) : FnOk P w K mg base CX0 4 T.f_trace.f T.f_trace.fd ["keys", "lengths"] (spTrace K) := by
  refine T.f_trace.F.ok sc_trace (fun vs H Q E h => ?_) (fun cdv A outer s H vs Q E hr h => ?_)
  · obtain ⟨a, ys, js, ks, v, L, R, C, rfl, _⟩ := h
    rfl
  obtain ⟨a, ys, js, ks, v, L, R, C, rfl, ha, hys, hjs, gk, ⟨u, rfl, hu⟩, hL, hR, hC, q⟩ := h
  refine ⟨_, (pss_cons (ps_set (i := 2) sc_trace.nd rfl (.inl rfl) (pe_call (ok_row_of T) (hr.mono (by decide)) (by rfl) T.f_row_of.g T.f_row_of.F.kp T.f_row_of.b .nil pass0 (pa_cons pe_str (pa_cons (pe_ix ix_seq (pv 1) pe_int (fun _ _ => rfl)) pa_nil))))
      (pss_cons (ps_set (i := 3) sc_trace.nd rfl (.inl rfl) (pe_call (ok_row_of T) (hr.mono (by decide)) (by rfl) T.f_row_of.g T.f_row_of.F.kp T.f_row_of.b .nil pass0 (pa_cons pe_str (pa_cons (pe_ix ix_seq (pv 1) pe_int (fun _ _ => rfl)) pa_nil))))
      (pss_cons (ps_set (i := 4) sc_trace.nd rfl (.inl rfl) (pe_call (ok_row_of T) (hr.mono (by decide)) (by rfl) T.f_row_of.g T.f_row_of.F.kp T.f_row_of.b .nil pass0 (pa_cons pe_str (pa_cons (pe_ix ix_seq (pv 1) pe_int (fun _ _ => rfl)) pa_nil))))
      (pss_cons (ps_expr (pe_bm0 PySem.F.plainAttrs_list PySem.F.slot_list_reverse PySem.F.type_list_reverse mt_reverse (pv 2)))
      (pss_cons (ps_expr (pe_bm0 PySem.F.plainAttrs_list PySem.F.slot_list_reverse PySem.F.type_list_reverse mt_reverse (pv 3)))
      (pss_cons (ps_for PassesOwn.never rfl (pi_list (pv 0)) (pg_name (i := 5) sc_trace.nd rfl (.inl rfl))
        (pss_one (ps_set (i := 4) sc_trace.nd rfl (.inl rfl) (pe_call (ok_do_key T) (hr.mono (by decide)) (by rfl) T.f_do_key.g T.f_do_key.F.kp T.f_do_key.b .nil pass0 (pa_cons (pv 5) (pa_cons (pv 2) (pa_cons (pv 3) (pa_cons (pv 4) pa_nil))))))))
      (pss_cons (ps_expr (pe_bm0 PySem.F.plainAttrs_list PySem.F.slot_list_reverse PySem.F.type_list_reverse mt_reverse (pv 2)))
      (pss_cons (ps_expr (pe_bm0 PySem.F.plainAttrs_list PySem.F.slot_list_reverse PySem.F.type_list_reverse mt_reverse (pv 3)))
      (pss_one (ps_ret (pe_tup (pa_cons (pv 2) (pa_cons (pv 3) (pa_cons (pv 4) pa_nil)))))))))))))), ?_⟩
  walk_at "rd"
  refine ⟨_, rfl, ix_row hu (at_ofA (j := 0) rfl rfl) ⟨"left", L, rfl, by omega, fun H1 D1 bs1 s1 n1 k1 r1 => ?_⟩⟩
  refine ⟨_, rfl, ix_row (hu.same s1) (at_ofA (j := 1) rfl rfl) ⟨"right", R, rfl, by omega, fun H2 D2 bs2 s2 n2 k2 r2 => ?_⟩⟩
  refine ⟨_, rfl, ix_row (hu.same (s1.trans s2)) (at_ofA (j := 2) rfl rfl) ⟨"clip", C, rfl, by omega, fun H3 D3 bs3 s3 n3 k3 r3 => ?_⟩⟩
  have h12 : D1 ≠ D2 := ne_of_none k1 n2
  have h13 : D1 ≠ D3 := ne_of_none (s2 _ _ k1) n3
  have h23 : D2 ≠ D3 := ne_of_none k2 n3
  have k1 := s3 _ _ (s2 _ _ k1)
  have k2 := s3 _ _ k2
  have r1 := (r1.same s2).same s3
  have r2 := r2.same s3
  have s03 := (s1.trans s2).trans s3
  have n2H : H D2 = none := s1.free n2
  have n3H : H D3 = none := (s1.trans s2).free n3
  obtain ⟨kr, jw, jl⟩ := tkeys_rel hjs fun k hk => Nat.le_trans (hwt_mem hk) gk.wt
  have l1 : bs1.length = L := by have := prd_len r1; rw [rowS_len] at this; exact this
  have l2 : bs2.length = R := by have := prd_len r2; rw [rowS_len] at this; exact this
  have l3 : bs3.length = C := by have := prd_len r3; rw [rowS_len] at this; exact this
  walk_at "rd"
  refine ⟨_, rfl, .inl ⟨rfl, _, SqL.of k1⟩, D1, _, rfl, rfl, k1, ?_⟩
  refine ⟨_, rfl, .inl ⟨rfl, _, SqL.of (by rw [upd_ne h12.symm]; exact k2)⟩, D2, _, rfl, rfl, by rw [upd_ne h12.symm]; exact k2, ?_⟩
  have fr4 : ∀ x o, x ≠ D1 → x ≠ D2 → H3 x = some o → (upd (upd H3 D1 (.lst (bs1.map V.ref).reverse)) D2 (.lst (bs2.map V.ref).reverse)) x = some o := fun x o h1 h2 h => by rw [upd_ne h2, upd_ne h1]; exact h
  have k14 : (upd (upd H3 D1 (.lst (bs1.map V.ref).reverse)) D2 (.lst (bs2.map V.ref).reverse)) D1 = some (.lst (bs1.map V.ref).reverse) := by rw [upd_ne h12, upd_same]
  have k24 := upd_same (H := upd H3 D1 (.lst (bs1.map V.ref).reverse)) (a := D2) (o := .lst (bs2.map V.ref).reverse)
  have k34 := fr4 _ _ h13.symm h23.symm k3
  generalize upd (upd H3 D1 (.lst (bs1.map V.ref).reverse)) D2 (.lst (bs2.map V.ref).reverse) = H4 at *
  rw [← List.map_reverse] at k14 k24
  have toS : ∀ {H' : Hp}, (∀ x o, x ≠ D1 → x ≠ D2 → H3 x = some o → H' x = some o) → Same H H' := fun f x o h => f x o (ne_of_none h n1) (ne_of_none h n2H) (s03 _ _ h)
  have ha3 := s03 _ _ ha
  have yl : ys.length = js.length := prd_len hys
  have hfew := gk.few
  generalize hS0 : (⟨bs1.reverse, bs2.reverse, bs3⟩ : Sd Nat) = S0
  have sz0 : S0.size ≤ 400 ∧ S0.c.length ≤ 60 := by
    subst hS0
    unfold Sd.size
    simp only [List.length_reverse]
    omega
  refine fr_list ?_
  walk_at "rd"
  refine ⟨_, rfl, a, rfl, ⟨_, SqL.of ((toS fr4) _ _ ha)⟩, ForGo.list (a := a) (xs := ys) (fun j σ H' => ∃ c y, σ = [some (.ref a), some (.ref u), some (.ref D1), some (.ref D2), some (.ref c), y] ∧ (∀ x o, x ≠ D1 → x ≠ D2 → H3 x = some o → H' x = some o) ∧ sdV ((steps id (js.take j) S0).map V.ref) H' D1 D2 c)
    ⟨D3, _, rfl, fr4, ?_⟩ (fun j σ H' _ ⟨_, _, _, f, _⟩ => SqL.of ((toS f) _ _ ha)) ?_ ?_⟩
  · subst hS0
    exact ⟨k14, k24, k34, h12, h13, h23⟩
  · rintro j x σ H5 hx ⟨c, y, rfl, f5, hsd⟩
    obtain ⟨k, hk, r⟩ := prd_at hys hx
    obtain ⟨p3, p4⟩ := steps_size id (js.take j) S0 (fun k hk => jw k (List.mem_of_mem_take hk)) sz0.2
    have jtl : (js.take j).length ≤ 60 := by rw [List.length_take]; omega
    walk_at "rd"
    refine ⟨_, rfl, _, rfl, _, rfl, _, rfl, V.ref, x, k, D1, D2, c, _, rfl, r.same (toS f5), hsd, ?_, fun p H6 f6 hsd6 => ?_⟩
    · have e1 : ((steps id (js.take j) S0).map V.ref).size = (steps id (js.take j) S0).size := by
        unfold Sd.size Sd.map
        simp only [List.length_map]
      have e2 : ((steps id (js.take j) S0).map V.ref).c.length = (steps id (js.take j) S0).c.length := by
        unfold Sd.map
        simp only [List.length_map]
      rw [e1, e2]
      omega
    · refine ⟨p, some x, rfl, fun x o h1 h2 h => f6 x o h1 h2 (f5 x o h1 h2 h), ?_⟩
      have e4 : js.take (j + 1) = js.take j ++ [k] := by rw [List.take_add_one, hk]; rfl
      rw [e4, steps_app, steps_cons]
      show sdV ((step id k _).map V.ref) H6 D1 D2 p
      rw [← step_map id V.ref k]
      exact hsd6
  · rintro σ H5 ⟨c, y, rfl, f5, hA, hB, hC, _, hac, hbc⟩
    rw [yl, List.take_length] at hA hB hC
    have hA : H5 D1 = some (.lst ((steps id js S0).l.map V.ref)) := hA
    have hB : H5 D2 = some (.lst ((steps id js S0).r.map V.ref)) := hB
    have hC : H5 c = some (.lst ((steps id js S0).c.map V.ref)) := hC
    have tupS : ∀ {bs srcs}, SrcL H3 bs srcs → SrcL H5 bs srcs := fun h => prd_same (fun b s hb => f5 _ _ (fun z => by rw [z, k1] at hb; cases hb) (fun z => by rw [z, k2] at hb; cases hb) hb) h
    have RR : SdR (fun (b : Nat) s => H5 b = some (.tup s)) S0 ⟨(rowS "left" L).reverse, (rowS "right" R).reverse, rowS "clip" C⟩ := by
      subst hS0
      exact ⟨prd_rev (tupS r1), prd_rev (tupS r2), tupS r3⟩
    have kr5 : Paired (KyR (fun (b : Nat) s => H5 b = some (.tup s)) id srcF) js (ckeys 0 ks) := prd_same (fun k k' h => by
      rcases h with ⟨w, w', e1, e2, e3⟩ | h
      · exact .inl ⟨w, w', e1, e2, prd_same (fun _ _ k => (toS f5) _ _ k) e3⟩
      · exact .inr h) kr
    have RT := steps_rel kr5 RR
    generalize hZ : steps id js S0 = Z at *
    walk_at "rd"
    refine ⟨_, rfl, .inl ⟨rfl, _, SqL.of hA⟩, D1, _, rfl, rfl, hA, ?_⟩
    refine ⟨_, rfl, .inl ⟨rfl, _, SqL.of (by rw [upd_ne h12.symm]; exact hB)⟩, D2, _, rfl, rfl, by rw [upd_ne h12.symm]; exact hB, ?_⟩
    have f6 : ∀ x o, x ≠ D1 → x ≠ D2 → H5 x = some o → (upd (upd H5 D1 (.lst (Z.l.map V.ref).reverse)) D2 (.lst (Z.r.map V.ref).reverse)) x = some o := fun x o h1 h2 h => by rw [upd_ne h2, upd_ne h1]; exact h
    have k16 : (upd (upd H5 D1 (.lst (Z.l.map V.ref).reverse)) D2 (.lst (Z.r.map V.ref).reverse)) D1 = some (.lst (Z.l.map V.ref).reverse) := by rw [upd_ne h12, upd_same]
    have k26 := upd_same (H := upd H5 D1 (.lst (Z.l.map V.ref).reverse)) (a := D2) (o := .lst (Z.r.map V.ref).reverse)
    have k36 := f6 _ _ hac.symm hbc.symm hC
    generalize upd (upd H5 D1 (.lst (Z.l.map V.ref).reverse)) D2 (.lst (Z.r.map V.ref).reverse) = H6 at *
    rw [← List.map_reverse] at k16 k26
    have tup6 : ∀ {bs srcs}, SrcL H5 bs srcs → SrcL H6 bs srcs := fun h => prd_same (fun b s hb => f6 _ _ (fun z => by rw [z, hA] at hb; cases hb) (fun z => by rw [z, hB] at hb; cases hb) hb) h
    refine ⟨_, rfl, _, rfl, _, rfl, by show 3 ≤ sizeLine; decide, fun t nt => ?_⟩
    have st := same_upd (o := .tup [V.ref D1, V.ref D2, V.ref c]) nt
    refine q _ t ((toS fun x o h1 h2 h => f6 x o h1 h2 (f5 x o h1 h2 h)).trans st) ⟨D1, D2, c, upd_same, ⟨_, st _ _ k16, SrcL.same st (prd_rev (tup6 RT.l))⟩, ⟨_, st _ _ k26, SrcL.same st (prd_rev (tup6 RT.r))⟩, ⟨_, st _ _ k36, SrcL.same st (tup6 RT.c)⟩⟩
def spTable (K : PySem.W.Frag) : Sp := fun vs H Q _ => ∃ (p a : Addr) (ks : List Ky) (v : V) (L R C : Nat), vs = [.ref a, v] ∧ HandL p H a ks ∧ GoodH ks ∧ LenAt K H v L R C ∧ L ≤ 200 ∧ R ≤ 200 ∧ C ≤ 60 ∧
  ∀ H' t, Same H H' → TabAt H' t (tab ks L R C) → Q (.ref t) H'
theorem ok_table (T : Txt K mg w) : FnOk P w K mg base CX0 7 T.f_table.f T.f_table.fd ["hand", "lengths"] (spTable K) := by
  refine T.f_table.F.ok sc_table (fun vs H Q E h => ?_) (fun cdv A outer s H vs Q E hr h => ?_)
  · obtain ⟨p, a, ks, v, L, R, C, rfl, _⟩ := h
    rfl
  obtain ⟨p, a, ks, v, L, R, C, rfl, hL, gk, hv, hL2, hR2, hC, q⟩ := h
  refine ⟨_, (pss_cons (ps_expr (pe_call (ok_check_hand T) (hr.mono (by decide)) (by rfl) T.f_check_hand.g T.f_check_hand.F.kp T.f_check_hand.b .nil pass0 (pa_cons (pv 0) pa_nil)))
      (pss_cons (ps_expr (pe_call (ok_check_near T) (hr.mono (by decide)) (by rfl) T.f_check_near.g T.f_check_near.F.kp T.f_check_near.b .nil pass0 (pa_cons (pv 1) pa_nil)))
      (pss_one (ps_ret (pe_call (ok_trace T) (hr.mono (by decide)) (by rfl) T.f_trace.g T.f_trace.F.kp T.f_trace.b .nil pass0 (pa_cons (pe_call (ok_sourced T) (hr.mono (by decide)) (by rfl) T.f_sourced.g T.f_sourced.F.kp T.f_sourced.b .nil pass0 (pa_cons (pv 0) pa_nil)) (pa_cons (pv 1) pa_nil))))))), ?_⟩
  walk_at "rd"
  refine ⟨_, rfl, .ref a, ks, rfl, hL.at, gk, fun H1 s1 => ?_⟩
  refine ⟨_, rfl, v, L, R, C, rfl, hv.same s1, hC, hL2, hR2, fun H2 s2 => ?_⟩
  have s12 := s1.trans s2
  refine ⟨_, rfl, p, a, ks, rfl, hL.mv fun b o _ e => s12 b o e, gk, fun H3 D ys js s3 nD hD hys hjs => ?_⟩
  exact ⟨_, rfl, D, ys, js, ks, v, L, R, C, rfl, hD, hys, hjs, gk, (hv.same s12).same s3, hL2, hR2, hC, fun H4 t s4 ht => q H4 t ((s12.trans s3).trans s4) ht⟩

/-- no key is cut short on that side -/
def fitK (b : Bool) (k : Ky) (s : Ln) : Prop := ∀ n, need b k = some n → n ≤ lside b s
def fits (b : Bool) : List Ky → Ln → Prop
  | [], _ => True
  | k :: ks, s => fitK b k s ∧ fits b ks (lstep k s)
theorem left_fits : ∀ (ks : List Ky) (x : Ln) (m : Int) (s : Ln) (l0 : Int), x.l + l0 ≤ s.l + 60 → x.r ≤ s.r → x.c ≤ s.c → hwt ks ≤ x.l → 60 ≤ l0 + (lfold true ks (x, m)).2 → fits true ks s
  | [], _, _, _, _, _, _, _, _, _ => trivial
  | k :: ks, x, m, s, l0, h1, h2, h3, h4, h5 => by
    rw [hwt_cons] at h4
    have h5 : 60 ≤ l0 + (lfold true ks (lrs true (x, m) k)).2 := h5
    have h6 := lfold_le true ks (lrs true (x, m) k)
    have go := left_fits ks (lstep k x) (lrs true (x, m) k).2 (lstep k s) l0
    cases k with
    | write w =>
      refine ⟨(fun n h => by cases h), go ?_ h2 h3 ?_ h5⟩
      · show ((x.l + w.length : Nat) : Int) + l0 ≤ ((s.l + w.length : Nat) : Int) + 60
        omega
      · show _ ≤ x.l + w.length
        omega
    | paste =>
      refine ⟨(fun n h => by cases h), go ?_ h2 h3 ?_ h5⟩
      · show ((x.l + x.c : Nat) : Int) + l0 ≤ ((s.l + s.c : Nat) : Int) + 60
        omega
      · show _ ≤ x.l + x.c
        omega
    | left n =>
      have h7 : (lfold true ks (lrs true (x, m) (.left n))).2 ≤ min m ((x.l : Nat) - (n : Int)) := h6
      have h4 : n + hwt ks ≤ x.l := h4
      refine ⟨fun j h => ?_, go ?_ ?_ h3 ?_ h5⟩
      · have e := Option.some.inj (show some n = some j from h)
        show j ≤ s.l
        omega
      · show ((x.l - n : Nat) : Int) + l0 ≤ ((s.l - n : Nat) : Int) + 60
        omega
      · show x.r + min n x.l ≤ s.r + min n s.l
        omega
      · show _ ≤ x.l - n
        omega
    | rub n =>
      have h7 : (lfold true ks (lrs true (x, m) (.rub n))).2 ≤ min m ((x.l : Nat) - (n : Int)) := h6
      have h4 : n + hwt ks ≤ x.l := h4
      refine ⟨fun j h => ?_, go ?_ h2 h3 ?_ h5⟩
      · have e := Option.some.inj (show some n = some j from h)
        show j ≤ s.l
        omega
      · show ((x.l - n : Nat) : Int) + l0 ≤ ((s.l - n : Nat) : Int) + 60
        omega
      · show _ ≤ x.l - n
        omega
    | right n =>
      refine ⟨(fun j h => by cases h), go ?_ ?_ h3 ?_ h5⟩
      · show ((x.l + min n x.r : Nat) : Int) + l0 ≤ ((s.l + min n s.r : Nat) : Int) + 60
        omega
      · show x.r - n ≤ s.r - n
        omega
      · show _ ≤ x.l + min n x.r
        omega
    | strike n =>
      refine ⟨(fun j h => by cases h), go h1 ?_ h3 (by show _ ≤ x.l; omega) h5⟩
      show x.r - n ≤ s.r - n
      omega
    | copy n =>
      refine ⟨(fun j h => by cases h), go h1 h2 ?_ (by show _ ≤ x.l; omega) h5⟩
      show min n x.r ≤ min n s.r
      omega
    | cut n =>
      refine ⟨(fun j h => by cases h), go h1 ?_ ?_ (by show _ ≤ x.l; omega) h5⟩
      · show x.r - n ≤ s.r - n
        omega
      · show min n x.r ≤ min n s.r
        omega
theorem right_fits : ∀ (ks : List Ky) (x : Ln) (m : Int) (s : Ln) (r0 : Int), x.r + r0 ≤ s.r + 60 → x.l ≤ s.l → x.c ≤ s.c → hwt ks ≤ x.r → 60 ≤ r0 + (lfold false ks (x, m)).2 → fits false ks s
  | [], _, _, _, _, _, _, _, _, _ => trivial
  | k :: ks, x, m, s, r0, h1, h2, h3, h4, h5 => by
    rw [hwt_cons] at h4
    have h5 : 60 ≤ r0 + (lfold false ks (lrs false (x, m) k)).2 := h5
    have h6 := lfold_le false ks (lrs false (x, m) k)
    have go := right_fits ks (lstep k x) (lrs false (x, m) k).2 (lstep k s) r0
    cases k with
    | write w =>
      refine ⟨(fun n h => by cases h), go h1 ?_ h3 (by show _ ≤ x.r; omega) h5⟩
      show x.l + w.length ≤ s.l + w.length
      omega
    | paste =>
      refine ⟨(fun n h => by cases h), go h1 ?_ h3 (by show _ ≤ x.r; omega) h5⟩
      show x.l + x.c ≤ s.l + s.c
      omega
    | left n =>
      refine ⟨(fun j h => by cases h), go ?_ ?_ h3 ?_ h5⟩
      · show ((x.r + min n x.l : Nat) : Int) + r0 ≤ ((s.r + min n s.l : Nat) : Int) + 60
        omega
      · show x.l - n ≤ s.l - n
        omega
      · show _ ≤ x.r + min n x.l
        omega
    | rub n =>
      refine ⟨(fun j h => by cases h), go h1 ?_ h3 (by show _ ≤ x.r; omega) h5⟩
      show x.l - n ≤ s.l - n
      omega
    | right n =>
      have h7 : (lfold false ks (lrs false (x, m) (.right n))).2 ≤ min m ((x.r : Nat) - (n : Int)) := h6
      have h4 : n + hwt ks ≤ x.r := h4
      refine ⟨fun j h => ?_, go ?_ ?_ h3 ?_ h5⟩
      · have e := Option.some.inj (show some n = some j from h)
        show j ≤ s.r
        omega
      · show ((x.r - n : Nat) : Int) + r0 ≤ ((s.r - n : Nat) : Int) + 60
        omega
      · show x.l + min n x.r ≤ s.l + min n s.r
        omega
      · show _ ≤ x.r - n
        omega
    | strike n =>
      have h7 : (lfold false ks (lrs false (x, m) (.strike n))).2 ≤ min m ((x.r : Nat) - (n : Int)) := h6
      have h4 : n + hwt ks ≤ x.r := h4
      refine ⟨fun j h => ?_, go ?_ h2 h3 ?_ h5⟩
      · have e := Option.some.inj (show some n = some j from h)
        show j ≤ s.r
        omega
      · show ((x.r - n : Nat) : Int) + r0 ≤ ((s.r - n : Nat) : Int) + 60
        omega
      · show _ ≤ x.r - n
        omega
    | copy n =>
      have h7 : (lfold false ks (lrs false (x, m) (.copy n))).2 ≤ min m ((x.r : Nat) - (n : Int)) := h6
      have h4 : n + hwt ks ≤ x.r := h4
      refine ⟨fun j h => ?_, go h1 h2 ?_ (by show _ ≤ x.r; omega) h5⟩
      · have e := Option.some.inj (show some n = some j from h)
        show j ≤ s.r
        omega
      · show min n x.r ≤ min n s.r
        omega
    | cut n =>
      have h7 : (lfold false ks (lrs false (x, m) (.cut n))).2 ≤ min m ((x.r : Nat) - (n : Int)) := h6
      have h4 : n + hwt ks ≤ x.r := h4
      refine ⟨fun j h => ?_, go ?_ h2 ?_ ?_ h5⟩
      · have e := Option.some.inj (show some n = some j from h)
        show j ≤ s.r
        omega
      · show ((x.r - n : Nat) : Int) + r0 ≤ ((s.r - n : Nat) : Int) + 60
        omega
      · show min n x.r ≤ min n s.r
        omega
      · show _ ≤ x.r - n
        omega
/-- more letters farther off -/
def far {α : Type} (M N : List α) (s : Sd α) : Sd α := ⟨M ++ s.l, N ++ s.r, s.c⟩
theorem near_far {α : Type} (M : List α) {s : List α} {n : Nat} (h : n ≤ s.length) : near (M ++ s) n = near s n ∧ rest (M ++ s) n = M ++ rest s n := by
  unfold near rest
  rw [List.length_append, show M.length + s.length - n = M.length + (s.length - n) by omega, List.drop_append, List.take_append]
  rw [List.drop_of_length_le (by omega), List.take_of_length_le (by omega), show M.length + (s.length - n) - M.length = s.length - n by omega]
  exact ⟨rfl, rfl⟩
theorem step_far {α : Type} (f : Nat → α) (M N : List α) (k : Ky) (s : Sd α) (h1 : fitK true k s.ln) (h2 : fitK false k s.ln) : step f k (far M N s) = far M N (step f k s) := by
  cases k with
  | write w =>
    show Sd.mk ((M ++ s.l) ++ w.map f) _ _ = Sd.mk (M ++ (s.l ++ w.map f)) _ _
    rw [List.append_assoc]
    rfl
  | paste =>
    show Sd.mk ((M ++ s.l) ++ s.c) _ _ = Sd.mk (M ++ (s.l ++ s.c)) _ _
    rw [List.append_assoc]
    rfl
  | left n =>
    obtain ⟨e1, e2⟩ := near_far M (s := s.l) (h1 n rfl)
    show Sd.mk (rest (M ++ s.l) n) ((N ++ s.r) ++ near (M ++ s.l) n) _ = Sd.mk (M ++ rest s.l n) (N ++ (s.r ++ near s.l n)) _
    rw [e1, e2, List.append_assoc]
    rfl
  | rub n =>
    obtain ⟨e1, e2⟩ := near_far M (s := s.l) (h1 n rfl)
    show Sd.mk (rest (M ++ s.l) n) _ _ = Sd.mk (M ++ rest s.l n) _ _
    rw [e2]
    rfl
  | right n =>
    obtain ⟨e1, e2⟩ := near_far N (s := s.r) (h2 n rfl)
    show Sd.mk ((M ++ s.l) ++ near (N ++ s.r) n) (rest (N ++ s.r) n) _ = Sd.mk (M ++ (s.l ++ near s.r n)) (N ++ rest s.r n) _
    rw [e1, e2, List.append_assoc]
    rfl
  | strike n =>
    obtain ⟨e1, e2⟩ := near_far N (s := s.r) (h2 n rfl)
    show Sd.mk _ (rest (N ++ s.r) n) _ = Sd.mk _ (N ++ rest s.r n) _
    rw [e2]
    rfl
  | copy n =>
    obtain ⟨e1, e2⟩ := near_far N (s := s.r) (h2 n rfl)
    show Sd.mk _ _ (near (N ++ s.r) n) = Sd.mk _ _ (near s.r n)
    rw [e1]
    rfl
  | cut n =>
    obtain ⟨e1, e2⟩ := near_far N (s := s.r) (h2 n rfl)
    show Sd.mk _ (rest (N ++ s.r) n) (near (N ++ s.r) n) = Sd.mk _ (N ++ rest s.r n) (near s.r n)
    rw [e1, e2]
    rfl
theorem steps_far {α : Type} (f : Nat → α) (M N : List α) : ∀ (ks : List Ky) (s : Sd α), fits true ks s.ln → fits false ks s.ln → steps f ks (far M N s) = far M N (steps f ks s)
  | [], _, _, _ => rfl
  | k :: ks, s, h1, h2 => by
    rw [steps_cons, steps_cons, step_far f M N k s h1.1 h2.1]
    refine steps_far f M N ks (step f k s) ?_ ?_
    · rw [step_ln]
      exact h1.2
    · rw [step_ln]
      exact h2.2

theorem left_tight : ∀ (ks : List Ky) (x s : Ln) (m d : Int), (x.l : Int) = s.l + d → x.r = s.r → x.c = s.c → hwt ks ≤ x.l → fits true ks s → min m d ≤ (lfold true ks (x, m)).2
  | [], x, s, m, d, _, _, _, _, _ => Int.min_le_left m d
  | k :: ks, x, s, m, d, h1, h2, h3, h4, ⟨h5, h6⟩ => by
    rw [hwt_cons] at h4
    have go := fun m' (e1 : ((lstep k x).l : Int) = (lstep k s).l + d) (e2 : (lstep k x).r = (lstep k s).r) (e3 : (lstep k x).c = (lstep k s).c) (e4 : hwt ks ≤ (lstep k x).l) => left_tight ks (lstep k x) (lstep k s) m' d e1 e2 e3 e4 h6
    cases k with
    | write w =>
      refine go m ?_ h2 h3 (by show _ ≤ x.l + w.length; omega)
      show ((x.l + w.length : Nat) : Int) = ((s.l + w.length : Nat) : Int) + d
      omega
    | paste =>
      refine go m ?_ h2 h3 (by show _ ≤ x.l + x.c; omega)
      show ((x.l + x.c : Nat) : Int) = ((s.l + s.c : Nat) : Int) + d
      omega
    | left n =>
      have h4 : n + hwt ks ≤ x.l := h4
      have hn : n ≤ s.l := h5 n rfl
      have hx : n ≤ x.l := by omega
      have := go (min m ((x.l : Nat) - (n : Int))) (by show ((x.l - n : Nat) : Int) = ((s.l - n : Nat) : Int) + d; omega) (by show x.r + min n x.l = s.r + min n s.l; omega) h3 (by show _ ≤ x.l - n; omega)
      refine Int.le_trans ?_ this
      omega
    | rub n =>
      have h4 : n + hwt ks ≤ x.l := h4
      have hn : n ≤ s.l := h5 n rfl
      have hx : n ≤ x.l := by omega
      have := go (min m ((x.l : Nat) - (n : Int))) (by show ((x.l - n : Nat) : Int) = ((s.l - n : Nat) : Int) + d; omega) h2 h3 (by show _ ≤ x.l - n; omega)
      refine Int.le_trans ?_ this
      omega
    | right n => exact go m (by show ((x.l + min n x.r : Nat) : Int) = ((s.l + min n s.r : Nat) : Int) + d; rw [h2]; omega) (by show x.r - n = s.r - n; rw [h2]) h3 (by show _ ≤ x.l + min n x.r; omega)
    | strike n => exact go m h1 (by show x.r - n = s.r - n; rw [h2]) h3 (by show _ ≤ x.l; omega)
    | copy n => exact go m h1 h2 (by show min n x.r = min n s.r; rw [h2]) (by show _ ≤ x.l; omega)
    | cut n => exact go m h1 (by show x.r - n = s.r - n; rw [h2]) (by show min n x.r = min n s.r; rw [h2]) (by show _ ≤ x.l; omega)
theorem right_tight : ∀ (ks : List Ky) (x s : Ln) (m d : Int), (x.r : Int) = s.r + d → x.l = s.l → x.c = s.c → hwt ks ≤ x.r → fits false ks s → min m d ≤ (lfold false ks (x, m)).2
  | [], x, s, m, d, _, _, _, _, _ => Int.min_le_left m d
  | k :: ks, x, s, m, d, h1, h2, h3, h4, ⟨h5, h6⟩ => by
    rw [hwt_cons] at h4
    have go := fun m' (e1 : ((lstep k x).r : Int) = (lstep k s).r + d) (e2 : (lstep k x).l = (lstep k s).l) (e3 : (lstep k x).c = (lstep k s).c) (e4 : hwt ks ≤ (lstep k x).r) => right_tight ks (lstep k x) (lstep k s) m' d e1 e2 e3 e4 h6
    cases k with
    | write w => exact go m h1 (by show x.l + w.length = s.l + w.length; rw [h2]) h3 (by show _ ≤ x.r; omega)
    | paste => exact go m h1 (by show x.l + x.c = s.l + s.c; rw [h2, h3]) h3 (by show _ ≤ x.r; omega)
    | left n => exact go m (by show ((x.r + min n x.l : Nat) : Int) = ((s.r + min n s.l : Nat) : Int) + d; rw [h2]; omega) (by show x.l - n = s.l - n; rw [h2]) h3 (by show _ ≤ x.r + min n x.l; omega)
    | rub n => exact go m h1 (by show x.l - n = s.l - n; rw [h2]) h3 (by show _ ≤ x.r; omega)
    | right n =>
      have h4 : n + hwt ks ≤ x.r := h4
      have hn : n ≤ s.r := h5 n rfl
      have := go (min m ((x.r : Nat) - (n : Int))) (by show ((x.r - n : Nat) : Int) = ((s.r - n : Nat) : Int) + d; omega) (by show x.l + min n x.r = s.l + min n s.r; omega) h3 (by show _ ≤ x.r - n; omega)
      refine Int.le_trans ?_ this
      omega
    | strike n =>
      have h4 : n + hwt ks ≤ x.r := h4
      have hn : n ≤ s.r := h5 n rfl
      have := go (min m ((x.r : Nat) - (n : Int))) (by show ((x.r - n : Nat) : Int) = ((s.r - n : Nat) : Int) + d; omega) h2 h3 (by show _ ≤ x.r - n; omega)
      refine Int.le_trans ?_ this
      omega
    | copy n =>
      have h4 : n + hwt ks ≤ x.r := h4
      have hn : n ≤ s.r := h5 n rfl
      have := go (min m ((x.r : Nat) - (n : Int))) h1 h2 (by show min n x.r = min n s.r; omega) (by show _ ≤ x.r; omega)
      refine Int.le_trans ?_ this
      omega
    | cut n =>
      have h4 : n + hwt ks ≤ x.r := h4
      have hn : n ≤ s.r := h5 n rfl
      have := go (min m ((x.r : Nat) - (n : Int))) (by show ((x.r - n : Nat) : Int) = ((s.r - n : Nat) : Int) + d; omega) h2 (by show min n x.r = min n s.r; omega) (by show _ ≤ x.r - n; omega)
      refine Int.le_trans ?_ this
      omega
theorem lfold_ge0 (b : Bool) : ∀ (ks : List Ky) (x : Ln) (m : Int), 0 ≤ m → hwt ks ≤ lside b x → 0 ≤ (lfold b ks (x, m)).2
  | [], x, m, h, _ => h
  | k :: ks, x, m, h, h4 => by
    rw [hwt_cons] at h4
    have hs : hwt ks ≤ lside b (lstep k x) := by
      cases b <;> cases k <;> simp only [lside, lstep, Ky.wt] at h4 ⊢ <;> simp at h4 ⊢ <;> omega
    have hm : 0 ≤ (lrs b (x, m) k).2 := by
      unfold lrs
      cases hn : need b k with
      | none => exact h
      | some n =>
        have : n ≤ k.wt := by cases b <;> cases k <;> simp [need, Ky.wt] at hn ⊢ <;> omega
        show 0 ≤ min m (((lside b x : Nat) : Int) - (n : Int))
        omega
    exact lfold_ge0 b ks (lstep k x) (lrs b (x, m) k).2 hm hs
/-- the reach of a hand on a side -/
def rch (b : Bool) (ks : List Ky) : Int := 60 - (rfold b ks).2
theorem rch_0 (b : Bool) {ks : List Ky} (h : hwt ks ≤ 60) : 0 ≤ rch b ks ∧ rch b ks ≤ 60 := by
  unfold rch
  rw [rfold_lfold]
  have h1 := lfold_le b ks (x0 b, 60)
  have h2 := lfold_ge0 b ks (x0 b) 60 (by decide) (by cases b <;> exact h)
  have h1 : (lfold b ks (x0 b, 60)).2 ≤ 60 := h1
  omega
theorem rch_fits (b : Bool) {ks : List Ky} (h : hwt ks ≤ 60) {s : Ln} (hs : rch b ks ≤ (lside b s : Nat)) : fits b ks s := by
  unfold rch at hs
  rw [rfold_lfold] at hs
  cases b with
  | true => exact left_fits ks (x0 true) 60 s (60 - (lfold true ks (x0 true, 60)).2) (by show ((60 : Nat) : Int) + _ ≤ (s.l : Int) + 60; have hs : 60 - _ ≤ ((s.l : Nat) : Int) := hs; omega) (Nat.zero_le _) (Nat.zero_le _) h (by omega)
  | false => exact right_fits ks (x0 false) 60 s (60 - (lfold false ks (x0 false, 60)).2) (by show ((60 : Nat) : Int) + _ ≤ (s.r : Int) + 60; have hs : 60 - _ ≤ ((s.r : Nat) : Int) := hs; omega) (Nat.zero_le _) (Nat.zero_le _) h (by omega)
theorem rch_tight (b : Bool) {ks : List Ky} (h : hwt ks ≤ 60) {n : Nat} (hn : ((n : Nat) : Int) = rch b ks - 1) : ¬ fits b ks (if b then ⟨n, 0, 0⟩ else ⟨0, n, 0⟩) := by
  have hb := rch_0 b h
  unfold rch at hn hb
  rw [rfold_lfold] at hn hb
  intro hf
  cases b with
  | true =>
    have := left_tight ks (x0 true) ⟨n, 0, 0⟩ 60 (60 - (n : Int)) (by show ((60 : Nat) : Int) = (n : Int) + _; omega) rfl rfl h hf
    omega
  | false =>
    have := right_tight ks (x0 false) ⟨0, n, 0⟩ 60 (60 - (n : Int)) (by show ((60 : Nat) : Int) = (n : Int) + _; omega) rfl rfl h hf
    omega
/-- whether a key is cut short on a side, going the keys -/
def hitB (b : Bool) (k : Ky) (s : Ln) : Bool := match need b k with
  | some n => decide (lside b s < n)
  | none => false
def cutB (b : Bool) : List Ky → Ln → Bool
  | [], _ => false
  | k :: ks, s => hitB b k s || cutB b ks (lstep k s)
theorem cutB_fits (b : Bool) : ∀ (ks : List Ky) (s : Ln), cutB b ks s = false ↔ fits b ks s
  | [], _ => by simp [cutB, fits]
  | k :: ks, s => by
    unfold cutB fits fitK hitB
    rw [Bool.or_eq_false_iff, cutB_fits b ks]
    cases need b k with
    | none => simp
    | some n => simp

theorem near_farQ {α : Type} (M : List α) {s : List α} {n : Nat} (h : M = [] ∨ n ≤ s.length) : near (M ++ s) n = near s n ∧ rest (M ++ s) n = M ++ rest s n := by
  rcases h with rfl | h
  · exact ⟨rfl, rfl⟩
  · exact near_far M h
theorem step_farQ {α : Type} (f : Nat → α) (M N : List α) (k : Ky) (s : Sd α) (h1 : M = [] ∨ fitK true k s.ln) (h2 : N = [] ∨ fitK false k s.ln) : step f k (far M N s) = far M N (step f k s) := by
  cases k with
  | write w =>
    show Sd.mk ((M ++ s.l) ++ w.map f) _ _ = Sd.mk (M ++ (s.l ++ w.map f)) _ _
    rw [List.append_assoc]
    rfl
  | paste =>
    show Sd.mk ((M ++ s.l) ++ s.c) _ _ = Sd.mk (M ++ (s.l ++ s.c)) _ _
    rw [List.append_assoc]
    rfl
  | left n =>
    obtain ⟨e1, e2⟩ := near_farQ M (s := s.l) (h1.imp_right fun h => h n rfl)
    show Sd.mk (rest (M ++ s.l) n) ((N ++ s.r) ++ near (M ++ s.l) n) _ = Sd.mk (M ++ rest s.l n) (N ++ (s.r ++ near s.l n)) _
    rw [e1, e2, List.append_assoc]
    rfl
  | rub n =>
    obtain ⟨e1, e2⟩ := near_farQ M (s := s.l) (h1.imp_right fun h => h n rfl)
    show Sd.mk (rest (M ++ s.l) n) _ _ = Sd.mk (M ++ rest s.l n) _ _
    rw [e2]
    rfl
  | right n =>
    obtain ⟨e1, e2⟩ := near_farQ N (s := s.r) (h2.imp_right fun h => h n rfl)
    show Sd.mk ((M ++ s.l) ++ near (N ++ s.r) n) (rest (N ++ s.r) n) _ = Sd.mk (M ++ (s.l ++ near s.r n)) (N ++ rest s.r n) _
    rw [e1, e2, List.append_assoc]
    rfl
  | strike n =>
    obtain ⟨e1, e2⟩ := near_farQ N (s := s.r) (h2.imp_right fun h => h n rfl)
    show Sd.mk _ (rest (N ++ s.r) n) _ = Sd.mk _ (N ++ rest s.r n) _
    rw [e2]
    rfl
  | copy n =>
    obtain ⟨e1, e2⟩ := near_farQ N (s := s.r) (h2.imp_right fun h => h n rfl)
    show Sd.mk _ _ (near (N ++ s.r) n) = Sd.mk _ _ (near s.r n)
    rw [e1]
    rfl
  | cut n =>
    obtain ⟨e1, e2⟩ := near_farQ N (s := s.r) (h2.imp_right fun h => h n rfl)
    show Sd.mk _ (rest (N ++ s.r) n) (near (N ++ s.r) n) = Sd.mk _ (N ++ rest s.r n) (near s.r n)
    rw [e1, e2]
    rfl
theorem steps_farQ {α : Type} (f : Nat → α) (M N : List α) : ∀ (ks : List Ky) (s : Sd α), (M = [] ∨ fits true ks s.ln) → (N = [] ∨ fits false ks s.ln) → steps f ks (far M N s) = far M N (steps f ks s)
  | [], _, _, _ => rfl
  | k :: ks, s, h1, h2 => by
    rw [steps_cons, steps_cons, step_farQ f M N k s (h1.imp_right fun h => h.1) (h2.imp_right fun h => h.1)]
    refine steps_farQ f M N ks (step f k s) ?_ ?_
    · rw [step_ln]
      exact h1.imp_right fun h => h.2
    · rw [step_ln]
      exact h2.imp_right fun h => h.2
theorem ckey_need (b : Bool) (n : Nat) (k : Ky) : need b (ckey n k) = need b k := by cases b <;> cases k <;> rfl
theorem ckey_step (n : Nat) (k : Ky) (s : Ln) : lstep (ckey n k) s = lstep k s := by
  cases k with
  | write w => show Ln.mk _ _ _ = Ln.mk _ _ _; rw [List.length_map, List.length_range]
  | _ => rfl
theorem ckeys_fits (b : Bool) : ∀ (n : Nat) (ks : List Ky) (s : Ln), fits b ks s → fits b (ckeys n ks) s
  | _, [], _, h => h
  | n, k :: ks, s, h => by
    refine ⟨fun m hm => h.1 m (by rw [← ckey_need b n k]; exact hm), ?_⟩
    rw [ckey_step]
    exact ckeys_fits b (n + 1) ks _ h.2
/-- letters farther off on a side -/
def moreS (z : Str) (L n : Nat) : List (List V) := (List.range n).map fun (d : Nat) => [.str z, .int ((L + d : Nat) : Int)]
theorem rowS_more (z : Str) (L n : Nat) : rowS z (L + n) = rowS z L ++ moreS z L n := by
  induction n with
  | zero => unfold moreS; simp
  | succ n ih =>
    have e1 : rowS z (L + (n + 1)) = rowS z (L + n) ++ [[.str z, .int ((L + n : Nat) : Int)]] := by
      unfold rowS
      rw [show L + (n + 1) = (L + n) + 1 by omega, List.range_succ, List.map_append]
      rfl
    have e2 : moreS z L (n + 1) = moreS z L n ++ [[.str z, .int ((L + n : Nat) : Int)]] := by
      unfold moreS
      rw [List.range_succ, List.map_append]
      rfl
    rw [e1, e2, ih, List.append_assoc]
theorem moreS_0 (z : Str) (L : Nat) : moreS z L 0 = [] := rfl
theorem tab_more {ks : List Ky} (gk : GoodH ks) (L R C a b : Nat) (h1 : a = 0 ∨ rch true ks ≤ (L : Int)) (h2 : b = 0 ∨ rch false ks ≤ (R : Int)) :
    (tab ks (L + a) (R + b) C).l.reverse = (tab ks L R C).l.reverse ++ moreS "left" L a ∧ (tab ks (L + a) (R + b) C).r.reverse = (tab ks L R C).r.reverse ++ moreS "right" R b ∧ (tab ks (L + a) (R + b) C).c = (tab ks L R C).c := by
  have e : tab ks (L + a) (R + b) C = far (moreS "left" L a).reverse (moreS "right" R b).reverse (tab ks L R C) := by
    unfold tab
    rw [rowS_more, rowS_more, List.reverse_append, List.reverse_append]
    refine steps_farQ srcF _ _ (ckeys 0 ks) ⟨(rowS "left" L).reverse, (rowS "right" R).reverse, rowS "clip" C⟩ ?_ ?_
    · rcases h1 with rfl | h1
      · exact .inl rfl
      · refine .inr (ckeys_fits true 0 ks _ (rch_fits true gk.wt ?_))
        show rch true ks ≤ (((rowS "left" L).reverse.length : Nat) : Int)
        rw [List.length_reverse, rowS_len]
        exact h1
    · rcases h2 with rfl | h2
      · exact .inl rfl
      · refine .inr (ckeys_fits false 0 ks _ (rch_fits false gk.wt ?_))
        show rch false ks ≤ (((rowS "right" R).reverse.length : Nat) : Int)
        rw [List.length_reverse, rowS_len]
        exact h2
  rw [e]
  refine ⟨?_, ?_, rfl⟩
  · show ((moreS "left" L a).reverse ++ (tab ks L R C).l).reverse = _
    rw [List.reverse_append, List.reverse_reverse]
  · show ((moreS "right" R b).reverse ++ (tab ks L R C).r).reverse = _
    rw [List.reverse_append, List.reverse_reverse]
/-! ### comparing what is told -/
def vd : V → PyData
  | .str x => .str x
  | .int i => .int i
  | _ => .none
def OkS (s : List V) : Prop := ∀ v ∈ s, v = .str "left" ∨ v = .str "right" ∨ v = .str "clip" ∨ v = .str "typed" ∨ ∃ i, v = .int i
theorem vd_dp {K : PySem.W.Frag} {H : Hp} : ∀ {s : List V}, OkS s → DpAll K H s (s.map vd)
  | [], _ => .nil
  | v :: s, h => by
    refine .cons ?_ (vd_dp fun x hx => h x (List.mem_cons_of_mem _ hx))
    rcases h v (List.mem_cons_self ..) with rfl | rfl | rfl | rfl | ⟨i, rfl⟩
    · exact .str _
    · exact .str _
    · exact .str _
    · exact .str _
    · exact .int i
theorem vd_lay : ∀ {s : List V}, OkS s → PyData.canLayAll0 (s.map vd) = true ∧ PyData.depthAll (s.map vd) ≤ 1
  | [], _ => ⟨rfl, by decide⟩
  | v :: s, h => by
    obtain ⟨h1, h2⟩ := vd_lay fun x hx => h x (List.mem_cons_of_mem _ hx)
    have hv : (vd v).canLay0 = true ∧ (vd v).depth ≤ 1 := by
      rcases h v (List.mem_cons_self ..) with rfl | rfl | rfl | rfl | ⟨i, rfl⟩
      · exact ⟨by decide +kernel, by simp [vd, PyData.depth]⟩
      · exact ⟨by decide +kernel, by simp [vd, PyData.depth]⟩
      · exact ⟨by decide +kernel, by simp [vd, PyData.depth]⟩
      · exact ⟨by decide +kernel, by simp [vd, PyData.depth]⟩
      · exact ⟨rfl, by simp [vd, PyData.depth]⟩
    refine ⟨?_, ?_⟩
    · show ((vd v).canLay0 && PyData.canLayAll0 (s.map vd)) = true
      rw [hv.1, h1]
      rfl
    · show max (vd v).depth (PyData.depthAll (s.map vd)) ≤ 1
      have := hv.2
      omega
def sdD (s : List V) : PyData := .tuple (s.map vd)
theorem srcs_lay : ∀ {ss : List (List V)}, (∀ s ∈ ss, OkS s) → PyData.canLayAll0 (ss.map sdD) = true ∧ PyData.depthAll (ss.map sdD) ≤ 2
  | [], _ => ⟨rfl, by decide⟩
  | s :: ss, h => by
    obtain ⟨h1, h2⟩ := srcs_lay fun x hx => h x (List.mem_cons_of_mem _ hx)
    obtain ⟨h3, h4⟩ := vd_lay (h s (List.mem_cons_self ..))
    refine ⟨?_, ?_⟩
    · show (PyData.canLayAll0 (s.map vd) && PyData.canLayAll0 (ss.map sdD)) = true
      rw [h1, h3]
      rfl
    · show max (PyData.depthAll (s.map vd) + 1) (PyData.depthAll (ss.map sdD)) ≤ 2
      omega
theorem srcs_dp {K : PySem.W.Frag} {H : Hp} {bs : List Nat} {ss : List (List V)} (h : SrcL H bs ss) (ok : ∀ s ∈ ss, OkS s) : DpAll K H (bs.map V.ref) (ss.map sdD) := by
  induction h with
  | nil => exact .nil
  | cons r t ih => exact .cons (.tup (SqT.of r) (vd_dp (ok _ (List.mem_cons_self ..)))) (ih fun x hx => ok x (List.mem_cons_of_mem _ hx))
structure OkT (T : Sd (List V)) : Prop where
  l : ∀ s ∈ T.l, OkS s
  r : ∀ s ∈ T.r, OkS s
  c : ∀ s ∈ T.c, OkS s
def tabD (T : Sd (List V)) : PyData := .tuple [.list (T.l.reverse.map sdD), .list (T.r.reverse.map sdD), .list (T.c.map sdD)]
theorem tab_dp {K : PySem.W.Frag} {H : Hp} {t : Addr} {T : Sd (List V)} (h : TabAt H t T) (ok : OkT T) : Dp K H (.ref t) (tabD T) := by
  obtain ⟨a1, a2, a3, ht, ⟨b1, h1, r1⟩, ⟨b2, h2, r2⟩, ⟨b3, h3, r3⟩⟩ := h
  exact .tup (SqT.of ht) (.cons (.lst (SqL.of h1) (srcs_dp r1 fun s hs => ok.l s (List.mem_reverse.mp hs))) (.cons (.lst (SqL.of h2) (srcs_dp r2 fun s hs => ok.r s (List.mem_reverse.mp hs))) (.cons (.lst (SqL.of h3) (srcs_dp r3 ok.c)) .nil)))
theorem tab_can {T : Sd (List V)} (ok : OkT T) : (tabD T).canLay0 = true ∧ (tabD T).depth ≤ 4 := by
  obtain ⟨l1, l2⟩ := srcs_lay (ss := T.l.reverse) fun s hs => ok.l s (List.mem_reverse.mp hs)
  obtain ⟨r1, r2⟩ := srcs_lay (ss := T.r.reverse) fun s hs => ok.r s (List.mem_reverse.mp hs)
  obtain ⟨c1, c2⟩ := srcs_lay (ss := T.c) ok.c
  refine ⟨?_, ?_⟩
  · show (PyData.canLayAll0 _ && (PyData.canLayAll0 _ && (PyData.canLayAll0 _ && true))) = true
    rw [l1, r1, c1]
    rfl
  · show max (PyData.depthAll (T.l.reverse.map sdD) + 1) (max (PyData.depthAll (T.r.reverse.map sdD) + 1) (max (PyData.depthAll (T.c.map sdD) + 1) 0)) + 1 ≤ 4
    omega
theorem ne_tab {K : PySem.W.Frag} {H : Hp} {t t' : Addr} {T : Sd (List V)} {Q : VK} (ok : OkT T) (h : TabAt H t T) (h' : TabAt H t' T) (q : Q (.bl false) H) : rNeD K (.ref t) (.ref t') H Q := by
  obtain ⟨c1, c2⟩ := tab_can ok
  have sh : SeqAt.shaped (tabD T) = true := by
    show ((tabD T).canLay0 && decide ((tabD T).depth ≤ 64)) = true
    rw [c1, decide_eq_true (by omega)]
    rfl
  exact ⟨tabD T, tabD T, tab_dp h ok, tab_dp h' ok, sh, sh, by rw [PySem.SeqAt.eqv_refl (tabD T) c1]; exact q⟩
theorem rowS_ok {z : Str} (hz : V.str z = .str "left" ∨ V.str z = .str "right" ∨ V.str z = .str "clip") (n : Nat) : ∀ s ∈ rowS z n, OkS s := fun s hs v hv => by
  unfold rowS at hs
  obtain ⟨d, _, rfl⟩ := List.mem_map.mp hs
  simp only [List.mem_cons, List.not_mem_nil, or_false] at hv
  rcases hv with rfl | rfl
  · rcases hz with h | h | h
    · exact .inl h
    · exact .inr (.inl h)
    · exact .inr (.inr (.inl h))
  · exact .inr (.inr (.inr (.inr ⟨_, rfl⟩)))
theorem srcF_ok (c : Nat) : OkS (srcF c) := fun v hv => by
  unfold srcF at hv
  simp only [List.mem_cons, List.not_mem_nil, or_false] at hv
  rcases hv with rfl | rfl | rfl
  · exact .inr (.inr (.inr (.inl rfl)))
  · exact .inr (.inr (.inr (.inr ⟨_, rfl⟩)))
  · exact .inr (.inr (.inr (.inr ⟨_, rfl⟩)))
theorem near_mem {α : Type} {x : α} {s : List α} {n : Nat} (h : x ∈ near s n) : x ∈ s := List.mem_of_mem_drop (List.mem_reverse.mp h)
theorem rest_mem {α : Type} {x : α} {s : List α} {n : Nat} (h : x ∈ rest s n) : x ∈ s := List.mem_of_mem_take h
theorem app_ok {a b : List (List V)} (h1 : ∀ s ∈ a, OkS s) (h2 : ∀ s ∈ b, OkS s) : ∀ s ∈ a ++ b, OkS s := fun s hs => (List.mem_append.mp hs).elim (h1 s) (h2 s)
theorem step_ok (k : Ky) {T : Sd (List V)} (h : OkT T) : OkT (step srcF k T) := by
  cases k with
  | write w => exact ⟨app_ok h.l fun s hs => by obtain ⟨c, _, rfl⟩ := List.mem_map.mp hs; exact srcF_ok c, h.r, h.c⟩
  | paste => exact ⟨app_ok h.l h.c, h.r, h.c⟩
  | left n => exact ⟨fun s hs => h.l s (rest_mem hs), app_ok h.r fun s hs => h.l s (near_mem hs), h.c⟩
  | right n => exact ⟨app_ok h.l fun s hs => h.r s (near_mem hs), fun s hs => h.r s (rest_mem hs), h.c⟩
  | strike n => exact ⟨h.l, fun s hs => h.r s (rest_mem hs), h.c⟩
  | rub n => exact ⟨fun s hs => h.l s (rest_mem hs), h.r, h.c⟩
  | copy n => exact ⟨h.l, h.r, fun s hs => h.r s (near_mem hs)⟩
  | cut n => exact ⟨h.l, fun s hs => h.r s (rest_mem hs), fun s hs => h.r s (near_mem hs)⟩
theorem steps_ok : ∀ (ks : List Ky) {T : Sd (List V)}, OkT T → OkT (steps srcF ks T)
  | [], _, h => h
  | k :: ks, T, h => by
    rw [steps_cons]
    exact steps_ok ks (step_ok k h)
theorem tab_ok (ks : List Ky) (L R C : Nat) : OkT (tab ks L R C) :=
  steps_ok _ ⟨fun s hs => rowS_ok (.inl rfl) L s (List.mem_reverse.mp hs), fun s hs => rowS_ok (.inr (.inl rfl)) R s (List.mem_reverse.mp hs), rowS_ok (.inr (.inr rfl)) C⟩

def spLaw (K : PySem.W.Frag) : Sp := fun vs H Q _ => ∃ (a : Addr) (ns : List Int), vs = [.ref a] ∧ SqL K H a (ns.map V.int) ∧ ns.length ≤ 63 ∧ ∀ H', Q (.bl true) H'
theorem LenAt.tup {K : PySem.W.Frag} {H : Hp} {t : Addr} {L R C : Nat} (h : H t = some (.tup [.int L, .int R, .int C])) : LenAt K H (.ref t) L R C := ⟨t, rfl, .inr (SqT.of h)⟩
theorem LA.cat {H : Hp} {D : Addr} {xs ys : List (List V)} {bs cs : List Nat} (h1 : SrcL H bs xs) (h2 : SrcL H cs ys) (nD : H D = none) : LA (upd H D (.lst (bs.map V.ref ++ cs.map V.ref))) D (xs ++ ys) :=
  ⟨bs ++ cs, by rw [upd_same, List.map_append], (SrcL.app h1 h2).same (same_upd nD)⟩
theorem ckeys_wt : ∀ (n : Nat) (ks : List Ky), (∀ k ∈ ks, k.wt ≤ 60) → (∀ k ∈ ckeys n ks, k.wt ≤ 60) ∧ (ckeys n ks).length = ks.length
  | _, [], _ => ⟨(fun k hk => nomatch hk), rfl⟩
  | n, k :: ks, h => by
    obtain ⟨r1, r2⟩ := ckeys_wt (n + 1) ks fun x hx => h x (List.mem_cons_of_mem _ hx)
    refine ⟨fun x hx => ?_, by show (ckeys (n + 1) ks).length + 1 = ks.length + 1; rw [r2]⟩
    rcases List.mem_cons.mp hx with rfl | hx
    · have := h k (List.mem_cons_self ..)
      cases k with
      | write w => show ((List.range w.length).map _).length ≤ 60; rw [List.length_map, List.length_range]; exact this
      | _ => exact this
    · exact r1 x hx
theorem tab_size {ks : List Ky} (gk : GoodH ks) (L R C : Nat) (hC : C ≤ 60) : (tab ks L R C).l.length ≤ L + R + 3600 ∧ (tab ks L R C).r.length ≤ L + R + 3600 := by
  obtain ⟨w1, w2⟩ := ckeys_wt 0 ks fun k hk => Nat.le_trans (hwt_mem hk) gk.wt
  have hf := gk.few
  have := (steps_size srcF (ckeys 0 ks) ⟨(rowS "left" L).reverse, (rowS "right" R).reverse, rowS "clip" C⟩ w1 (by rw [rowS_len]; exact hC)).1
  rw [w2] at this
  unfold Sd.size at this
  simp only [List.length_reverse, rowS_len] at this
  unfold tab
  constructor <;> omega
/-- [(z, l + d) for d in range(n)] -/
theorem lc_more {z : Str} {L n j jd : Nat} {σ : L2.St} {H : Hp} {D : Addr} {Q : VK} (hσ : ∀ x : V, ((wipe σ [jd]).set jd (some x))[j]? = some (some (.int L)) ∧ ((wipe σ [jd]).set jd (some x))[jd]? = some (some x) ∧ wipe ((wipe σ [jd]).set jd (some x)) [jd] = wipe σ [jd]) (hn : n ≤ 1000) (nD : H D = none)
    (q : ∀ H' bs, Same H H' → H' D = some (.lst (bs.map V.ref)) → SrcL H' bs (moreS z L n) → Q (.ref D) H') :
    LcGo (Itr 0 ((n : Int)).toNat) (gName jd) tYes (tTup (tCons (tC (V.str z)) (tCons (tOp (rI0 fun i j => V.int (i + j)) (tVar j) (tVar jd)) tNil))) [jd] σ H D Q := by
  rw [Int.toNat_natCast]
  refine LcGo.range (fun i H' => Same H H' ∧ ∃ bs : List Nat, H' D = some (.lst (bs.map V.ref)) ∧ bs.length = i ∧ SrcL (hid D H') bs (moreS z L i)) ⟨same_upd nD, [], upd_same, rfl, .nil⟩ ?_ ?_
  · rintro i H2 hi ⟨s2, bs, hD, hbl, hbs⟩
    obtain ⟨h1, h2, h3⟩ := hσ (.int (0 + (i : Int)))
    refine ⟨h3, ⟨_, h1, _, h2, _, _, rfl, rfl, by show 2 ≤ sizeLine; decide, fun t nt => ?_⟩⟩
    have htD : t ≠ D := fun e => by rw [e, hD] at nt; cases nt
    refine ⟨_, by rw [upd_ne htD.symm]; exact hD, Nat.lt_of_le_of_lt (show (bs.map V.ref).length ≤ 1000 by rw [List.length_map]; omega) (by decide), same_mut (s2.trans (same_upd nt)) nD, bs ++ [t], ?_, by rw [List.length_append, hbl]; rfl, ?_⟩
    · rw [upd_same, List.map_append]
      rfl
    · rw [hid_hid]
      unfold moreS
      rw [List.range_succ, List.map_append]
      refine SrcL.app (hbs.same (hid_mono (same_upd nt))) (.cons ?_ .nil)
      rw [hid_ne htD, upd_same]
      show some (HO.tup [V.str z, V.int ((L : Int) + (0 + (i : Int)))]) = some (HO.tup [V.str z, V.int ((L + i : Nat) : Int)])
      rw [show (L : Int) + (0 + (i : Int)) = ((L + i : Nat) : Int) by omega]
  · rintro H2 ⟨s2, bs, hD, hbl, hbs⟩
    exact q _ bs s2 hD (hbs.same (hid_same D _))
theorem ok_law (T : Txt K mg w) : FnOk P w K mg base CX0 8 T.f_law.f T.f_law.fd ["script"] (spLaw K) := by
  refine T.f_law.F.ok sc_law (fun vs H Q E h => ?_) (fun cdv A outer s H vs Q E hr h => ?_)
  · obtain ⟨a, ns, rfl, _⟩ := h
    rfl
  obtain ⟨a, ns, rfl, hs, hlen, q⟩ := h
  refine ⟨_, (pss_cons (ps_set (i := 1) sc_law.nd rfl (.inr rfl) (pe_call (ok__law_reel T) (hr.mono (by decide)) (by rfl) T.f__law_reel.g T.f__law_reel.F.kp T.f__law_reel.b .nil pass0 (pa_cons (pv 0) pa_nil)))
      (pss_cons (ps_for PassesOwn.never rfl (pi_range1 (by rfl) T.b_range (pa_cons (pe_op op_add pe_int (pe_callB (call_min2 rfl) (by rfl) T.b_min (by decide +kernel) (pa_cons (pe_callB (call_lenK K) (by rfl) T.b_len (by decide +kernel) (pa_cons (pv 0) pa_nil)) (pa_cons pe_int pa_nil)))) pa_nil)) (pg_name (i := 2) sc_law.nd rfl (.inl rfl))
        (pss_cons (ps_set (i := 3) sc_law.nd rfl (.inl rfl) (pe_call (ok__law_hand T) (hr.mono (by decide)) (by rfl) T.f__law_hand.g T.f__law_hand.F.kp T.f__law_hand.b .nil pass0 (pa_cons (pv 1) (pa_cons (pe_ix ix_seq (pe_lst (pa_cons pe_int (pa_cons pe_int pa_nil))) (pe_call (ok__law_draw T) (hr.mono (by decide)) (by rfl) T.f__law_draw.g T.f__law_draw.F.kp T.f__law_draw.b .nil pass0 (pa_cons (pv 1) (pa_cons pe_int pa_nil))) (fun _ _ => rfl)) pa_nil))))
      (pss_cons (ps_asg (pe_call (ok_reaches T) (hr.mono (by decide)) (by rfl) T.f_reaches.g T.f_reaches.F.kp T.f_reaches.b .nil pass0 (pa_cons (pv 3) pa_nil)) (pg_tup rfl (pgs_cons (pg_name (i := 4) sc_law.nd rfl (.inr rfl)) (pgs_cons (pg_name (i := 5) sc_law.nd rfl (.inr rfl)) pgs_nil))))
      (pss_one (ps_for PassesOwn.never rfl (pi_range1 (by rfl) T.b_range (pa_cons pe_int pa_nil)) (pg_name (i := 6) sc_law.nd rfl (.inl rfl))
        (pss_cons (ps_set (i := 7) sc_law.nd rfl (.inl rfl) (pe_call (ok__law_draw T) (hr.mono (by decide)) (by rfl) T.f__law_draw.g T.f__law_draw.F.kp T.f__law_draw.b .nil pass0 (pa_cons (pv 1) (pa_cons (pe_ix ix_seq (pe_lst (pa_cons pe_int (pa_cons pe_int pa_nil))) (pe_call (ok__law_draw T) (hr.mono (by decide)) (by rfl) T.f__law_draw.g T.f__law_draw.F.kp T.f__law_draw.b .nil pass0 (pa_cons (pv 1) (pa_cons pe_int pa_nil))) (fun _ _ => rfl)) pa_nil))))
      (pss_cons (ps_setLc (i := 8) (own := [("side", 16)]) rfl sc_law.nd rfl rfl (sw_true rfl rfl rfl (by decide +kernel)) (pi_range1 (by rfl) T.b_range (pa_cons pe_int pa_nil)) (blkOk_by (own := [("side", 16)]) (N := N_law) (sc := defScope s_law) (by decide +kernel)) (fun _ _ _ _ _ => (pg_name (i := 16) sc_law.nd rfl (.inl rfl))) (fun _ _ _ _ _ => pts_nil) (fun _ _ _ _ _ => (pe_call (ok__law_draw T) (hr.mono (by decide)) (by rfl) T.f__law_draw.g T.f__law_draw.F.kp T.f__law_draw.b .nil pass0 (pa_cons (pv 1) (pa_cons (pe_ix (ix_seqK K) (pe_lst (pa_cons pe_int (pa_cons pe_int pa_nil))) (pe_call (ok__law_draw T) (hr.mono (by decide)) (by rfl) T.f__law_draw.g T.f__law_draw.F.kp T.f__law_draw.b .nil pass0 (pa_cons (pv 1) (pa_cons pe_int pa_nil))) (fun _ _ => rfl)) pa_nil)))))
      (pss_cons (ps_set (i := 9) sc_law.nd rfl (.inl rfl) (pe_call (ok_table T) (hr.mono (by decide)) (by rfl) T.f_table.g T.f_table.F.kp T.f_table.b .nil pass0 (pa_cons (pv 3) (pa_cons (pe_tup (pa_cons (pv 4) (pa_cons (pv 5) (pa_cons (pv 7) pa_nil)))) pa_nil))))
      (pss_cons (ps_set (i := 10) sc_law.nd rfl (.inl rfl) (pe_call (ok_table T) (hr.mono (by decide)) (by rfl) T.f_table.g T.f_table.F.kp T.f_table.b .nil pass0 (pa_cons (pv 3) (pa_cons (pe_tup (pa_cons (pe_op op_add (pv 4) (pe_ix ix_seq (pv 8) pe_int (fun _ _ => rfl))) (pa_cons (pe_op op_add (pv 5) (pe_ix ix_seq (pv 8) pe_int (fun _ _ => rfl))) (pa_cons (pv 7) pa_nil)))) pa_nil))))
      (pss_cons (ps_set (i := 11) sc_law.nd rfl (.inl rfl) (pe_op op_cat (pe_ix ix_seq (pv 9) pe_int (fun _ _ => rfl)) (pe_lc (own := [("d", 17)]) rfl sc_law.nd (pi_range1 (by rfl) T.b_range (pa_cons (pe_ix ix_seq (pv 8) pe_int (fun _ _ => rfl)) pa_nil)) (blkOk_by (own := [("d", 17)]) (N := N_law) (sc := defScope s_law) (by decide +kernel)) (fun _ _ _ _ _ => (pg_name (i := 17) sc_law.nd rfl (.inl rfl))) (fun _ _ _ _ _ => pts_nil) (fun _ _ _ _ _ => (pe_tup (pa_cons pe_str (pa_cons (pe_op op_add (pv 4) (pv 17)) pa_nil)))))))
      (pss_cons (ps_set (i := 12) sc_law.nd rfl (.inl rfl) (pe_op op_cat (pe_ix ix_seq (pv 9) pe_int (fun _ _ => rfl)) (pe_lc (own := [("d", 17)]) rfl sc_law.nd (pi_range1 (by rfl) T.b_range (pa_cons (pe_ix ix_seq (pv 8) pe_int (fun _ _ => rfl)) pa_nil)) (blkOk_by (own := [("d", 17)]) (N := N_law) (sc := defScope s_law) (by decide +kernel)) (fun _ _ _ _ _ => (pg_name (i := 17) sc_law.nd rfl (.inl rfl))) (fun _ _ _ _ _ => pts_nil) (fun _ _ _ _ _ => (pe_tup (pa_cons pe_str (pa_cons (pe_op op_add (pv 5) (pv 17)) pa_nil)))))))
      (pss_cons (ps_if (pt_cmpR (op_neD hr.units) (pv 10) (pe_tup (pa_cons (pv 11) (pa_cons (pv 12) (pa_cons (pe_ix ix_seq (pv 9) pe_int (fun _ _ => rfl)) pa_nil)))) (nomark _)) (pss_one (ps_ret pe_bl)) pss_nil)
      (pss_cons (ps_set (i := 13) sc_law.nd rfl (.inl rfl) (pe_lst (pa_cons (pe_call (ok__law_draw T) (hr.mono (by decide)) (by rfl) T.f__law_draw.g T.f__law_draw.F.kp T.f__law_draw.b .nil pass0 (pa_cons (pv 1) (pa_cons (pe_op op_add (pv 4) pe_int) pa_nil))) (pa_cons (pe_call (ok__law_draw T) (hr.mono (by decide)) (by rfl) T.f__law_draw.g T.f__law_draw.F.kp T.f__law_draw.b .nil pass0 (pa_cons (pv 1) (pa_cons (pe_op op_add (pv 5) pe_int) pa_nil))) pa_nil))))
      (pss_cons (ps_set (i := 14) sc_law.nd rfl (.inl rfl) (pe_call (ok_table T) (hr.mono (by decide)) (by rfl) T.f_table.g T.f_table.F.kp T.f_table.b .nil pass0 (pa_cons (pv 3) (pa_cons (pe_tup (pa_cons (pe_ix ix_seq (pv 13) pe_int (fun _ _ => rfl)) (pa_cons (pv 5) (pa_cons (pv 7) pa_nil)))) pa_nil))))
      (pss_cons (ps_set (i := 15) sc_law.nd rfl (.inl rfl) (pe_call (ok_table T) (hr.mono (by decide)) (by rfl) T.f_table.g T.f_table.F.kp T.f_table.b .nil pass0 (pa_cons (pv 3) (pa_cons (pe_tup (pa_cons (pe_ix ix_seq (pv 13) pe_int (fun _ _ => rfl)) (pa_cons (pe_op op_add (pv 5) (pe_ix ix_seq (pv 8) pe_int (fun _ _ => rfl))) (pa_cons (pv 7) pa_nil)))) pa_nil))))
      (pss_cons (ps_if (pt_cmpR (op_neD hr.units) (pv 15) (pe_tup (pa_cons (pe_ix ix_seq (pv 14) pe_int (fun _ _ => rfl)) (pa_cons (pe_op op_cat (pe_ix ix_seq (pv 14) pe_int (fun _ _ => rfl)) (pe_lc (own := [("d", 17)]) rfl sc_law.nd (pi_range1 (by rfl) T.b_range (pa_cons (pe_ix ix_seq (pv 8) pe_int (fun _ _ => rfl)) pa_nil)) (blkOk_by (own := [("d", 17)]) (N := N_law) (sc := defScope s_law) (by decide +kernel)) (fun _ _ _ _ _ => (pg_name (i := 17) sc_law.nd rfl (.inl rfl))) (fun _ _ _ _ _ => pts_nil) (fun _ _ _ _ _ => (pe_tup (pa_cons pe_str (pa_cons (pe_op op_add (pv 5) (pv 17)) pa_nil)))))) (pa_cons (pe_ix ix_seq (pv 14) pe_int (fun _ _ => rfl)) pa_nil)))) (nomark _)) (pss_one (ps_ret pe_bl)) pss_nil)
      (pss_cons (ps_set (i := 14) sc_law.nd rfl (.inl rfl) (pe_call (ok_table T) (hr.mono (by decide)) (by rfl) T.f_table.g T.f_table.F.kp T.f_table.b .nil pass0 (pa_cons (pv 3) (pa_cons (pe_tup (pa_cons (pv 4) (pa_cons (pe_ix ix_seq (pv 13) pe_int (fun _ _ => rfl)) (pa_cons (pv 7) pa_nil)))) pa_nil))))
      (pss_cons (ps_set (i := 15) sc_law.nd rfl (.inl rfl) (pe_call (ok_table T) (hr.mono (by decide)) (by rfl) T.f_table.g T.f_table.F.kp T.f_table.b .nil pass0 (pa_cons (pv 3) (pa_cons (pe_tup (pa_cons (pe_op op_add (pv 4) (pe_ix ix_seq (pv 8) pe_int (fun _ _ => rfl))) (pa_cons (pe_ix ix_seq (pv 13) pe_int (fun _ _ => rfl)) (pa_cons (pv 7) pa_nil)))) pa_nil))))
      (pss_one (ps_if (pt_cmpR (op_neD hr.units) (pv 15) (pe_tup (pa_cons (pe_op op_cat (pe_ix ix_seq (pv 14) pe_int (fun _ _ => rfl)) (pe_lc (own := [("d", 17)]) rfl sc_law.nd (pi_range1 (by rfl) T.b_range (pa_cons (pe_ix ix_seq (pv 8) pe_int (fun _ _ => rfl)) pa_nil)) (blkOk_by (own := [("d", 17)]) (N := N_law) (sc := defScope s_law) (by decide +kernel)) (fun _ _ _ _ _ => (pg_name (i := 17) sc_law.nd rfl (.inl rfl))) (fun _ _ _ _ _ => pts_nil) (fun _ _ _ _ _ => (pe_tup (pa_cons pe_str (pa_cons (pe_op op_add (pv 4) (pv 17)) pa_nil)))))) (pa_cons (pe_ix ix_seq (pv 14) pe_int (fun _ _ => rfl)) (pa_cons (pe_ix ix_seq (pv 14) pe_int (fun _ _ => rfl)) pa_nil)))) (nomark _)) (pss_one (ps_ret pe_bl)) pss_nil))))))))))))))))))))
      (pss_one (ps_ret pe_bl)))), ?_⟩
  walk_at "rd"
  refine ⟨_, rfl, a, ns, rfl, hs, hlen, fun H1 p s1 fp rel => ?_⟩
  refine fr_rng1 ?_
  walk_at "rd"
  refine ⟨_, rfl, len_row (.inl (s1.seq hs)) ⟨_, _, rfl, ?_⟩⟩
  refine ⟨_, _, rfl, rfl, _, rfl, by split <;> omega, by split <;> omega, ForGo.range
    (fun i σ H2 => ∃ y2 y3 y4 y5 y6 y7 y8 y9 y10 y11 y12 y13 y14 y15 y16 y17, σ = [some (.ref a), some (.ref p), y2, y3, y4, y5, y6, y7, y8, y9, y10, y11, y12, y13, y14, y15, y16, y17] ∧ Gr p H1 H2)
    ⟨_, _, _, _, _, _, _, _, _, _, _, _, _, _, _, _, rfl, Gr.refl rel⟩ ?_ ?_⟩
  · rintro i σ H2 hi ⟨y2, y3, y4, y5, y6, y7, y8, y9, y10, y11, y12, y13, y14, y15, y16, y17, rfl, g2⟩
    walk_at "rd"
    refine ⟨_, rfl, by show 2 ≤ sizeLine; decide, fun l1 nl1 => ?_⟩
    have hl1 := g2.rel.ne nl1
    have g3 := gr_new (o := .lst [V.int 20, V.int 60]) g2 nl1
    refine ⟨_, rfl, p, 2, rfl, g3.rel, by decide, by decide, fun H3 k1 g4 k10 k1l => ?_⟩
    obtain ⟨m1, hm1, hm2⟩ : ∃ m : Nat, atI [V.int 20, V.int 60] k1 = some (.int m) ∧ m ≤ 60 := by
      have : k1 = 0 ∨ k1 = 1 := by omega
      rcases this with rfl | rfl
      · exact ⟨20, rfl, by decide⟩
      · exact ⟨60, rfl, by decide⟩
    have g4' := g3.trans g4
    refine ix_lst (g4.keep _ _ hl1 upd_same) hm1 ⟨p, m1, rfl, g4'.rel, hm2, fun H4 ha ks g5 nha hnh hL hok hwt => ?_⟩
    have g5' := g4'.trans g5
    have gk : GoodH ks := ⟨hok, by omega⟩
    obtain ⟨b1, c1⟩ := rch_0 true gk.wt
    obtain ⟨b2, c2⟩ := rch_0 false gk.wt
    refine ⟨_, rfl, .ref ha, ks, rfl, hL.at, gk, fun t1 H5 s5 ht1 => ?_⟩
    have ht1 : H5 t1 = some (.tup [.int (rch true ks), .int (rch false ks)]) := ht1
    obtain ⟨L, hLe⟩ := Int.eq_ofNat_of_zero_le b1
    obtain ⟨R, hRe⟩ := Int.eq_ofNat_of_zero_le b2
    rw [hLe, hRe] at ht1
    have g6 := g5'.same s5
    have hL6 := hL.mv fun b o _ e => s5 b o e
    refine ⟨t1, _, rfl, SqT.of ht1, rfl, _, _, rfl, _, _, rfl, rfl, ?_⟩
    refine fr_rng1 ?_
    walk_at "rd"
    refine ⟨_, rfl, by decide, by decide, ForGo.range
      (fun i2 σ H' => ∃ y6 y7 y8 y9 y10 y11 y12 y13 y14 y15 y16 y17, σ = [some (.ref a), some (.ref p), some (.int (0 + i)), some (.ref ha), some (.int L), some (.int R), y6, y7, y8, y9, y10, y11, y12, y13, y14, y15, y16, y17] ∧ Gr p H1 H' ∧ HandL p H' ha ks)
      ⟨_, _, _, _, _, _, _, _, _, _, _, _, rfl, g6, hL6⟩ ?_ ?_⟩
    · rintro i2 σ H6 hi2 ⟨y6, y7, y8, y9, y10, y11, y12, y13, y14, y15, y16, y17, rfl, g7, hL7⟩
      walk_at "rd"
      refine ⟨_, rfl, by show 2 ≤ sizeLine; decide, fun l2 nl2 => ?_⟩
      have hl2 := g7.rel.ne nl2
      have s7 := same_upd (o := .lst [V.int 4, V.int 61]) nl2
      have g8 := g7.same s7
      refine ⟨_, rfl, p, 2, rfl, g8.rel, by decide, by decide, fun H7 k2 g9 k20 k2l => ?_⟩
      obtain ⟨m2, hm3, hm4, hm5⟩ : ∃ m : Int, atI [V.int 4, V.int 61] k2 = some (.int m) ∧ 1 ≤ m ∧ m ≤ 61 := by
        have : k2 = 0 ∨ k2 = 1 := by omega
        rcases this with rfl | rfl
        · exact ⟨4, rfl, by decide, by decide⟩
        · exact ⟨61, rfl, by decide, by decide⟩
      refine ix_lst (g9.keep _ _ hl2 upd_same) hm3 ⟨p, m2, rfl, g9.rel, by omega, Nat.lt_of_le_of_lt (show m2.natAbs ≤ 61 by omega) (by decide), fun H8 C g10 C0 Cl => ?_⟩
      obtain ⟨C, rfl⟩ := Int.eq_ofNat_of_zero_le C0
      have g11 := (g8.trans g9).trans g10
      have hL8 := ((hL7.mv fun b o _ e => s7 b o e).gr g9).gr g10
      refine lc_rng1 ?_
      walk_at "rd"
      refine ⟨_, rfl, by decide, by decide, fun D nD => ?_⟩
      have nDp := g11.rel.nin nD
      have nA : ∀ {H' : Hp} {b : Addr} {o : HO}, H' b = some o → H' b ≠ none := fun h z => by rw [h] at z; cases z
      refine LcGo.range (fun i H' => Gr p H8 H' ∧ Nin H' p D ∧ ∃ ms : List Nat, H' D = some (.lst (ms.map fun m : Nat => V.int m)) ∧ ms.length = i ∧ ∀ m ∈ ms, m < 130) ⟨gr_new (.refl g11.rel) nD, ninv nDp _ nDp, [], upd_same, rfl, (fun m hm => nomatch hm)⟩ ?_ ?_
      · rintro j H9 hj ⟨g12, hn9, ms, hD, hml, hms⟩
        walk_at "rd"
        refine ⟨rfl, _, rfl, by show 2 ≤ sizeLine; decide, fun l3 nl3 => ?_⟩
        have hl3 := g12.rel.ne nl3
        have s13 := same_upd (o := .lst [V.int 3, V.int 130]) nl3
        have g13 := Gr.of_same g12.rel s13
        have hD1 := s13 _ _ hD
        have hn10 := g13.nin D (nA hD) hn9
        refine ⟨_, rfl, p, 2, rfl, g13.rel, by decide, by decide, fun H10 k3 g14 k30 k3l => ?_⟩
        obtain ⟨m3, hm6, hm7, hm8⟩ : ∃ m : Int, atI [V.int 3, V.int 130] k3 = some (.int m) ∧ 1 ≤ m ∧ m ≤ 130 := by
          have : k3 = 0 ∨ k3 = 1 := by omega
          rcases this with rfl | rfl
          · exact ⟨3, rfl, by decide, by decide⟩
          · exact ⟨130, rfl, by decide, by decide⟩
        have hD2 := g14.keep _ _ nDp.1 hD1
        have hn11 := g14.nin D (nA hD1) hn10
        refine ix_lst (g14.keep _ _ hl3 upd_same) hm6 ⟨p, m3, rfl, g14.rel, by omega, Nat.lt_of_le_of_lt (show m3.natAbs ≤ 130 by omega) (by decide), fun H11 r g15 r0 rl => ?_⟩
        obtain ⟨r, rfl⟩ := Int.eq_ofNat_of_zero_le r0
        have hn12 := g15.nin D (nA hD2) hn11
        refine ⟨_, g15.keep _ _ nDp.1 hD2, Nat.lt_of_le_of_lt (show (ms.map fun m : Nat => V.int m).length ≤ 2 by rw [List.length_map, hml]; exact Nat.le_of_lt hj) (by decide), gr_mut (((g12.trans g13).trans g14).trans g15) nD hn12, ninv hn12 _ hn12, ms ++ [r], ?_, by rw [List.length_append, hml]; rfl, fun m hm => ?_⟩
        · rw [upd_same, List.map_append]
          rfl
        · rcases List.mem_append.mp hm with h | h
          · exact hms m h
          · rw [List.mem_singleton.mp h]
            omega
      rintro H9 ⟨g12, _, ms, hD, hml, hms⟩
      obtain ⟨a1, b1', rfl⟩ : ∃ x y, ms = [x, y] := by
        have : ms.length = 2 := hml
        match ms, this with
        | [x, y], _ => exact ⟨x, y, rfl⟩
      have ha1 : a1 < 130 := hms _ (by simp)
      have hb1 : b1' < 130 := hms _ (by simp)
      have hD : H9 D = some (.lst [.int (a1 : Int), .int (b1' : Int)]) := hD
      have g16 := g11.trans g12
      have hL9 := hL8.gr g12
      have hC : C ≤ 60 := by omega
      have hL60 : L ≤ 60 := by omega
      have hR60 : R ≤ 60 := by omega
      have mvS : ∀ {Hx Hy : Hp}, Same Hx Hy → HandL p Hx ha ks → HandL p Hy ha ks := fun e h => h.mv fun b o _ k => e b o k
      -- near
      refine ⟨_, rfl, _, rfl, _, rfl, _, rfl, by show 3 ≤ sizeLine; decide, fun tn ntn => ?_⟩
      have s20 := same_upd (o := .tup [V.int L, V.int R, V.int C]) ntn
      refine ⟨p, ha, ks, .ref tn, L, R, C, rfl, mvS s20 hL9, gk, LenAt.tup upd_same, by omega, by omega, hC, fun H10 t s10 ht => ?_⟩
      have s910 := s20.trans s10
      have hD10 := s910 _ _ hD
      -- far
      refine ⟨_, rfl, _, rfl, _, rfl, ix_lst hD10 (at_ofA (j := 0) rfl rfl) ⟨_, _, rfl, rfl, _, rfl, _, rfl, ix_lst hD10 (at_ofA (j := 1) rfl rfl) ⟨_, _, rfl, rfl, _, rfl, by show 3 ≤ sizeLine; decide, fun tf ntf => ?_⟩⟩⟩
      have s21 := same_upd (o := .tup [V.int ((L : Int) + a1), V.int ((R : Int) + b1'), V.int C]) ntf
      refine ⟨p, ha, ks, .ref tf, L + a1, R + b1', C, rfl, mvS (s910.trans s21) hL9, gk, LenAt.tup (by rw [upd_same, Int.natCast_add, Int.natCast_add]), by omega, by omega, hC, fun H11 t2 s11 ht2 => ?_⟩
      have s911 := (s910.trans s21).trans s11
      have hD11 := s911 _ _ hD
      have ht' := (ht.same s21).same s11
      obtain ⟨x1, x2, x3, htt, ⟨bs1, hx1, rs1⟩, ⟨bs2, hx2, rs2⟩, hx3⟩ := ht'
      have hD3 : ∀ {Hx : Hp}, Same H11 Hx → Hx D = some (.lst [.int (a1 : Int), .int (b1' : Int)]) := fun e => e _ _ hD11
      obtain ⟨z1, z2⟩ := tab_size gk L R C hC
      have len1 : bs1.length ≤ 5000 := by have := prd_len rs1; rw [List.length_reverse] at this; omega
      have len2 : bs2.length ≤ 5000 := by have := prd_len rs2; rw [List.length_reverse] at this; omega
      have catL : ∀ {x y n : Nat}, x ≤ 5000 → y ≤ 1000 → x + y ≤ sizeLine := fun h1 h2 => Nat.le_trans (show _ ≤ 6000 by omega) (by decide)
      have moreL : ∀ {H' : Hp} {bs : List Nat} {z : Str} {l n : Nat}, SrcL H' bs (moreS z l n) → bs.length = n := fun h => by have := prd_len h; unfold moreS at this; rw [List.length_map, List.length_range] at this; exact this
      -- lefts
      refine ⟨_, rfl, ix_row (.inr (SqT.of htt)) (at_ofA (j := 0) rfl rfl) (lc_rng1 ?_)⟩
      walk_at "rd"
      refine ⟨_, rfl, ix_lst hD11 (at_ofA (j := 0) rfl rfl) ⟨_, rfl, by omega, by omega, fun E1 nE1 => lc_more (z := "left") (L := L) (n := a1) (j := 4) (jd := 17) (fun _ => ⟨rfl, rfl, rfl⟩) (by omega) nE1 (fun H12 cs1 s12 hE1 hc1 => ?_)⟩⟩
      refine ⟨x1, E1, _, _, rfl, rfl, s12 _ _ hx1, hE1, by rw [List.length_map, List.length_map]; exact catL (n := 0) len1 (by have := moreL hc1; omega), fun X1 nX1 => ?_⟩
      have hX1 := LA.cat (rs1.same s12) hc1 nX1
      have sX1 := s12.trans (same_upd (o := .lst (bs1.map V.ref ++ cs1.map V.ref)) nX1)
      generalize upd H12 X1 (.lst (bs1.map V.ref ++ cs1.map V.ref)) = H13 at *
      -- rights
      refine ⟨_, rfl, ix_row (.inr (SqT.of (sX1 _ _ htt))) (at_ofA (j := 1) rfl rfl) (lc_rng1 ?_)⟩
      walk_at "rd"
      refine ⟨_, rfl, ix_lst (hD3 sX1) (at_ofA (j := 1) rfl rfl) ⟨_, rfl, by omega, by omega, fun E2 nE2 => lc_more (z := "right") (L := R) (n := b1') (j := 5) (jd := 17) (fun _ => ⟨rfl, rfl, rfl⟩) (by omega) nE2 (fun H14 cs2 s14 hE2 hc2 => ?_)⟩⟩
      have s114 := sX1.trans s14
      refine ⟨x2, E2, _, _, rfl, rfl, s114 _ _ hx2, hE2, by rw [List.length_map, List.length_map]; exact catL (n := 0) len2 (by have := moreL hc2; omega), fun X2 nX2 => ?_⟩
      have hX2 := LA.cat (rs2.same s114) hc2 nX2
      have s15 := same_upd (o := .lst (bs2.map V.ref ++ cs2.map V.ref)) nX2
      have sX2 := s114.trans s15
      have hX1 := hX1.same (s14.trans s15)
      generalize upd H14 X2 (.lst (bs2.map V.ref ++ cs2.map V.ref)) = H15 at *
      -- compared
      refine ⟨_, rfl, _, rfl, _, rfl, _, rfl, ix_row (.inr (SqT.of (sX2 _ _ htt))) (at_ofA (j := 2) rfl rfl) ⟨by show 3 ≤ sizeLine; decide, fun tt ntt => ?_⟩⟩
      have s16 := same_upd (o := .tup [V.ref X1, V.ref X2, V.ref x3]) ntt
      obtain ⟨e1, e2, e3⟩ := tab_more gk L R C a1 b1' (.inr (by omega)) (.inr (by omega))
      refine ne_tab (tab_ok ks (L + a1) (R + b1') C) ((ht2.same sX2).same s16) ⟨X1, X2, x3, upd_same, by rw [e1]; exact hX1.same s16, by rw [e2]; exact hX2.same s16, by rw [e3]; exact (hx3.same sX2).same s16⟩ ⟨_, rfl, iteN rfl ?_⟩
      have s1116 := sX2.trans s16
      have s916 := s911.trans s1116
      have g17 := g16.same s916
      have hL17 := mvS s916 hL9
      have hD17 := s916 _ _ hD
      generalize upd H15 tt (.tup [V.ref X1, V.ref X2, V.ref x3]) = H16 at *
      clear e1 e2 e3 hX1 hX2 hc1 hc2 hE1 hE2 hx1 hx2 hx3 htt ht ht2 rs1 rs2 len1 len2
      -- low
      refine ⟨_, rfl, _, rfl, _, _, rfl, rfl, p, _, rfl, g17.rel, by omega, Nat.lt_of_le_of_lt (show ((L : Int) + 1).natAbs ≤ 61 by omega) (by decide), fun H17 l0 g18 l00 l0l => ?_⟩
      obtain ⟨l0, rfl⟩ := Int.eq_ofNat_of_zero_le l00
      have g18' := g17.trans g18
      refine ⟨_, rfl, _, rfl, _, _, rfl, rfl, p, _, rfl, g18'.rel, by omega, Nat.lt_of_le_of_lt (show ((R : Int) + 1).natAbs ≤ 61 by omega) (by decide), fun H18 r0 g19 r00 r0l => ⟨by show 2 ≤ sizeLine; decide, fun W nW => ?_⟩⟩
      obtain ⟨r0, rfl⟩ := Int.eq_ofNat_of_zero_le r00
      have g19' := g18'.trans g19
      have hL18 := (hL17.gr g18).gr g19
      have hD18 := g19.keep _ _ nDp.1 (g18.keep _ _ nDp.1 hD17)
      have sW := same_upd (o := .lst [V.int (l0 : Int), V.int (r0 : Int)]) nW
      have kW := upd_same (H := H18) (a := W) (o := .lst [V.int (l0 : Int), V.int (r0 : Int)])
      have g20 := g19'.same sW
      have hL19 := mvS sW hL18
      have hD19 := sW _ _ hD18
      generalize upd H18 W (.lst [V.int (l0 : Int), V.int (r0 : Int)]) = H19 at *
      -- one side: left few, right far
      have hl0 : l0 ≤ L := by omega
      have hr0 : r0 ≤ R := by omega
      obtain ⟨w1, w2⟩ := tab_size gk l0 R C hC
      refine ⟨_, rfl, _, rfl, ix_lst kW (at_ofA (j := 0) rfl rfl) ⟨_, rfl, _, rfl, by show 3 ≤ sizeLine; decide, fun ta nta => ?_⟩⟩
      have s30 := same_upd (o := .tup [V.int (l0 : Int), V.int (R : Int), V.int (C : Int)]) nta
      refine ⟨p, ha, ks, .ref ta, l0, R, C, rfl, mvS s30 hL19, gk, LenAt.tup upd_same, by omega, by omega, hC, fun H20 t3 s31 ht3 => ?_⟩
      have s32 := s30.trans s31
      refine ⟨_, rfl, _, rfl, ix_lst (s32 _ _ kW) (at_ofA (j := 0) rfl rfl) ⟨_, rfl, _, rfl, ix_lst (s32 _ _ hD19) (at_ofA (j := 1) rfl rfl) ⟨_, _, rfl, rfl, _, rfl, by show 3 ≤ sizeLine; decide, fun tb ntb => ?_⟩⟩⟩
      have s33 := same_upd (o := .tup [V.int (l0 : Int), V.int ((R : Int) + b1'), V.int (C : Int)]) ntb
      refine ⟨p, ha, ks, .ref tb, l0, R + b1', C, rfl, mvS (s32.trans s33) hL19, gk, LenAt.tup (by rw [upd_same, Int.natCast_add]), by omega, by omega, hC, fun H21 t4 s34 ht4 => ?_⟩
      have s35 := (s32.trans s33).trans s34
      have ht3' := (ht3.same s33).same s34
      obtain ⟨x1, x2, x3, htt, hx1, ⟨bs2, hx2, rs2⟩, hx3⟩ := ht3'
      have len2 : bs2.length ≤ 5000 := by have := prd_len rs2; rw [List.length_reverse] at this; omega
      refine ⟨_, rfl, _, rfl, ix_row (.inr (SqT.of htt)) (at_ofA (j := 0) rfl rfl) ⟨_, rfl, ix_row (.inr (SqT.of htt)) (at_ofA (j := 1) rfl rfl) (lc_rng1 ?_)⟩⟩
      walk_at "rd"
      refine ⟨_, rfl, ix_lst (s35 _ _ hD19) (at_ofA (j := 1) rfl rfl) ⟨_, rfl, by omega, by omega, fun E2 nE2 => lc_more (z := "right") (L := R) (n := b1') (j := 5) (jd := 17) (fun _ => ⟨rfl, rfl, rfl⟩) (by omega) nE2 (fun H22 cs2 s36 hE2 hc2 => ?_)⟩⟩
      refine ⟨x2, E2, _, _, rfl, rfl, s36 _ _ hx2, hE2, by rw [List.length_map, List.length_map]; exact catL (n := 0) len2 (by have := moreL hc2; omega), fun X2 nX2 => ?_⟩
      have hX2 := LA.cat (rs2.same s36) hc2 nX2
      have s37 := same_upd (o := .lst (bs2.map V.ref ++ cs2.map V.ref)) nX2
      have s38 := s36.trans s37
      generalize upd H22 X2 (.lst (bs2.map V.ref ++ cs2.map V.ref)) = H23 at *
      refine ⟨_, rfl, ix_row (.inr (SqT.of (s38 _ _ htt))) (at_ofA (j := 2) rfl rfl) ⟨by show 3 ≤ sizeLine; decide, fun tt ntt => ?_⟩⟩
      have s39 := same_upd (o := .tup [V.ref x1, V.ref X2, V.ref x3]) ntt
      obtain ⟨e1, e2, e3⟩ := tab_more gk l0 R C 0 b1' (.inl rfl) (.inr (by omega))
      rw [Nat.add_zero, moreS_0, List.append_nil] at e1
      rw [Nat.add_zero] at e2 e3
      refine ne_tab (tab_ok ks l0 (R + b1') C) ((ht4.same s38).same s39) ⟨x1, X2, x3, upd_same, by rw [e1]; exact (hx1.same s38).same s39, by rw [e2]; exact hX2.same s39, by rw [e3]; exact (hx3.same s38).same s39⟩ ⟨_, rfl, iteN rfl ?_⟩
      have s40 := s35.trans (s38.trans s39)
      have kW24 := s40 _ _ kW
      have hD24 := s40 _ _ hD19
      have hL24 := mvS s40 hL19
      have g24 := g20.same s40
      generalize upd H23 tt (.tup [V.ref x1, V.ref X2, V.ref x3]) = H24 at *
      clear e1 e2 e3 hX2 hc2 hE2 hx1 hx2 hx3 htt ht3 ht4 rs2 len2
      -- the other side
      obtain ⟨v1, v2⟩ := tab_size gk L r0 C hC
      refine ⟨_, rfl, _, rfl, _, rfl, ix_lst kW24 (at_ofA (j := 1) rfl rfl) ⟨_, rfl, by show 3 ≤ sizeLine; decide, fun ta2 nta2 => ?_⟩⟩
      have s50 := same_upd (o := .tup [V.int (L : Int), V.int (r0 : Int), V.int (C : Int)]) nta2
      refine ⟨p, ha, ks, .ref ta2, L, r0, C, rfl, mvS s50 hL24, gk, LenAt.tup upd_same, by omega, by omega, hC, fun H25 t5 s51 ht5 => ?_⟩
      have s52 := s50.trans s51
      refine ⟨_, rfl, _, rfl, _, rfl, ix_lst (s52 _ _ hD24) (at_ofA (j := 0) rfl rfl) ⟨_, _, rfl, rfl, _, rfl, ix_lst (s52 _ _ kW24) (at_ofA (j := 1) rfl rfl) ⟨_, rfl, by show 3 ≤ sizeLine; decide, fun tb2 ntb2 => ?_⟩⟩⟩
      have s53 := same_upd (o := .tup [V.int ((L : Int) + a1), V.int (r0 : Int), V.int (C : Int)]) ntb2
      refine ⟨p, ha, ks, .ref tb2, L + a1, r0, C, rfl, mvS (s52.trans s53) hL24, gk, LenAt.tup (by rw [upd_same, Int.natCast_add]), by omega, by omega, hC, fun H26 t6 s54 ht6 => ?_⟩
      have s55 := (s52.trans s53).trans s54
      have ht5' := (ht5.same s53).same s54
      obtain ⟨x1, x2, x3, htt, ⟨bs1, hx1, rs1⟩, hx2, hx3⟩ := ht5'
      have len1 : bs1.length ≤ 5000 := by have := prd_len rs1; rw [List.length_reverse] at this; omega
      refine ⟨_, rfl, _, rfl, ix_row (.inr (SqT.of htt)) (at_ofA (j := 0) rfl rfl) (lc_rng1 ?_)⟩
      walk_at "rd"
      refine ⟨_, rfl, ix_lst (s55 _ _ hD24) (at_ofA (j := 0) rfl rfl) ⟨_, rfl, by omega, by omega, fun E1 nE1 => lc_more (z := "left") (L := L) (n := a1) (j := 4) (jd := 17) (fun _ => ⟨rfl, rfl, rfl⟩) (by omega) nE1 (fun H27 cs1 s56 hE1 hc1 => ?_)⟩⟩
      refine ⟨x1, E1, _, _, rfl, rfl, s56 _ _ hx1, hE1, by rw [List.length_map, List.length_map]; exact catL (n := 0) len1 (by have := moreL hc1; omega), fun X1 nX1 => ?_⟩
      have hX1 := LA.cat (rs1.same s56) hc1 nX1
      have s57 := same_upd (o := .lst (bs1.map V.ref ++ cs1.map V.ref)) nX1
      have s58 := s56.trans s57
      generalize upd H27 X1 (.lst (bs1.map V.ref ++ cs1.map V.ref)) = H28 at *
      refine ⟨_, rfl, ix_row (.inr (SqT.of (s58 _ _ htt))) (at_ofA (j := 1) rfl rfl) ⟨_, rfl, ix_row (.inr (SqT.of (s58 _ _ htt))) (at_ofA (j := 2) rfl rfl) ⟨by show 3 ≤ sizeLine; decide, fun tt ntt => ?_⟩⟩⟩
      have s59 := same_upd (o := .tup [V.ref X1, V.ref x2, V.ref x3]) ntt
      obtain ⟨e1, e2, e3⟩ := tab_more gk L r0 C a1 0 (.inr (by omega)) (.inl rfl)
      rw [Nat.add_zero, moreS_0, List.append_nil] at e2
      rw [Nat.add_zero] at e1 e3
      refine ne_tab (tab_ok ks (L + a1) r0 C) ((ht6.same s58).same s59) ⟨X1, x2, x3, upd_same, by rw [e1]; exact hX1.same s59, by rw [e2]; exact (hx2.same s58).same s59, by rw [e3]; exact (hx3.same s58).same s59⟩ ⟨_, rfl, iteN rfl ?_⟩
      have s60 := s55.trans (s58.trans s59)
      exact ⟨_, _, _, _, _, _, _, _, _, _, _, _, rfl, g24.same s60, mvS s60 hL24⟩
    · rintro σ H6 ⟨y6, y7, y8, y9, y10, y11, y12, y13, y14, y15, y16, y17, rfl, g7, _⟩
      exact ⟨_, _, _, _, _, _, _, _, _, _, _, _, _, _, _, _, rfl, g7⟩
  · rintro σ H2 ⟨y2, y3, y4, y5, y6, y7, y8, y9, y10, y11, y12, y13, y14, y15, y16, y17, rfl, g2⟩
    walk_at "rd"
    exact q _

end
theorem all_mk {l : PySem.W.OpenLaw} {w : World} {K : PySem.W.Frag} {h : Heap} {mg : Str → Option Value} {fa : Addr} (X : K.In h) (G : h.Ns mainGlobals mg) (hfa : mg "law" = some (.ref fa))
    {f0 : Addr} {od0 an0 : Option Addr} {sl0 : Array (Option Value)} {oc0 dc0 pm0 cd0 ct0 : Value} {kV0 : Value}
    {f1 : Addr} {od1 an1 : Option Addr} {sl1 : Array (Option Value)} {oc1 dc1 pm1 cd1 ct1 : Value} {kV1 : Value}
    {f2 : Addr} {od2 an2 : Option Addr} {sl2 : Array (Option Value)} {oc2 dc2 pm2 cd2 ct2 : Value} {kV2 : Value}
    {f3 : Addr} {od3 an3 : Option Addr} {sl3 : Array (Option Value)} {oc3 dc3 pm3 cd3 ct3 : Value} {kV3 : Value}
    {f4 : Addr} {od4 an4 : Option Addr} {sl4 : Array (Option Value)} {oc4 dc4 pm4 cd4 ct4 : Value} {kV4 : Value}
    {f5 : Addr} {od5 an5 : Option Addr} {sl5 : Array (Option Value)} {oc5 dc5 pm5 cd5 ct5 : Value} {kV5 : Value}
    {f6 : Addr} {od6 an6 : Option Addr} {sl6 : Array (Option Value)} {oc6 dc6 pm6 cd6 ct6 : Value} {kV6 : Value}
    {f7 : Addr} {od7 an7 : Option Addr} {sl7 : Array (Option Value)} {oc7 dc7 pm7 cd7 ct7 : Value} {kV7 : Value}
    {f8 : Addr} {od8 an8 : Option Addr} {sl8 : Array (Option Value)} {oc8 dc8 pm8 cd8 ct8 : Value} {kV8 : Value}
    {f9 : Addr} {od9 an9 : Option Addr} {sl9 : Array (Option Value)} {oc9 dc9 pm9 cd9 ct9 : Value} {kV9 : Value}
    {f10 : Addr} {od10 an10 : Option Addr} {sl10 : Array (Option Value)} {oc10 dc10 pm10 cd10 ct10 : Value} {kV10 : Value}
    {f11 : Addr} {od11 an11 : Option Addr} {sl11 : Array (Option Value)} {oc11 dc11 pm11 cd11 ct11 : Value} {kV11 : Value}
    {f12 : Addr} {od12 an12 : Option Addr} {sl12 : Array (Option Value)} {oc12 dc12 pm12 cd12 ct12 : Value} {kV12 : Value}
    {f13 : Addr} {od13 an13 : Option Addr} {sl13 : Array (Option Value)} {oc13 dc13 pm13 cd13 ct13 : Value} {kV13 : Value}
    {f14 : Addr} {od14 an14 : Option Addr} {sl14 : Array (Option Value)} {oc14 dc14 pm14 cd14 ct14 : Value} {kV14 : Value}
    {f15 : Addr} {od15 an15 : Option Addr} {sl15 : Array (Option Value)} {oc15 dc15 pm15 cd15 ct15 : Value} {kV15 : Value}
    {f16 : Addr} {od16 an16 : Option Addr} {sl16 : Array (Option Value)} {oc16 dc16 pm16 cd16 ct16 : Value} {kV16 : Value}
    {f17 : Addr} {od17 an17 : Option Addr} {sl17 : Array (Option Value)} {oc17 dc17 pm17 cd17 ct17 : Value} {kV17 : Value}
    {f18 : Addr} {od18 an18 : Option Addr} {sl18 : Array (Option Value)} {oc18 dc18 pm18 cd18 ct18 : Value} {kV18 : Value}
    {f19 : Addr} {od19 an19 : Option Addr} {sl19 : Array (Option Value)} {oc19 dc19 pm19 cd19 ct19 : Value} {kV19 : Value}
    {f20 : Addr} {od20 an20 : Option Addr} {sl20 : Array (Option Value)} {oc20 dc20 pm20 cd20 ct20 : Value} {kV20 : Value}
    {f21 : Addr} {od21 an21 : Option Addr} {sl21 : Array (Option Value)} {oc21 dc21 pm21 cd21 ct21 : Value} {kV21 : Value}
    {f22 : Addr} {od22 an22 : Option Addr} {sl22 : Array (Option Value)} {oc22 dc22 pm22 cd22 ct22 : Value} {kV22 : Value}
    {f23 : Addr} {od23 an23 : Option Addr} {sl23 : Array (Option Value)} {oc23 dc23 pm23 cd23 ct23 : Value} {kV23 : Value}
    {f24 : Addr} {od24 an24 : Option Addr} {sl24 : Array (Option Value)} {oc24 dc24 pm24 cd24 ct24 : Value} {kV24 : Value}
    {f25 : Addr} {od25 an25 : Option Addr} {sl25 : Array (Option Value)} {oc25 dc25 pm25 cd25 ct25 : Value} {kV25 : Value}
    {f26 : Addr} {od26 an26 : Option Addr} {sl26 : Array (Option Value)} {oc26 dc26 pm26 cd26 ct26 : Value} {kV26 : Value}
    {f27 : Addr} {od27 an27 : Option Addr} {sl27 : Array (Option Value)} {oc27 dc27 pm27 cd27 ct27 : Value} {kV27 : Value}
    {f28 : Addr} {od28 an28 : Option Addr} {sl28 : Array (Option Value)} {oc28 dc28 pm28 cd28 ct28 : Value} {kV28 : Value}
    {f29 : Addr} {od29 an29 : Option Addr} {sl29 : Array (Option Value)} {oc29 dc29 pm29 cd29 ct29 : Value} {kV29 : Value}
    {f30 : Addr} {od30 an30 : Option Addr} {sl30 : Array (Option Value)} {oc30 dc30 pm30 cd30 ct30 : Value} {kV30 : Value}
    {f31 : Addr} {od31 an31 : Option Addr} {sl31 : Array (Option Value)} {oc31 dc31 pm31 cd31 ct31 : Value} {kV31 : Value}
    {f32 : Addr} {od32 an32 : Option Addr} {sl32 : Array (Option Value)} {oc32 dc32 pm32 cd32 ct32 : Value} {kV32 : Value}
    {t_ALPHABET : Tok}
    {t_HEAVIEST : Tok}
    {t_LONGEST_SIDE : Tok}
    {t_LONGEST_WORD : Tok}
    {d_NUMBERS : Addr} {es_NUMBERS : Array DictEntry} {n_NUMBERS : Nat}
    {d_SIDES : Addr} {es_SIDES : Array DictEntry} {n_SIDES : Nat}
    (a0 : PySem.W.nsIn K mainGlobals "is_row" = some (some (.ref f0))) (l0 : K.lookup f0 = some ⟨oc0, od0, .func (PySem.W.fnOf "is_row" "is_row" (defArgs s_is_row) (defBody s_is_row) (defScope s_is_row) .none kV0 dc0 pm0 an0 cd0 ct0), sl0⟩) (c0 : PySem.W.codeIn K cd0 "is_row" = true) (k0 : PySem.W.keepIn K (.ref f0) = true)
    (a1 : PySem.W.nsIn K mainGlobals "is_whole" = some (some (.ref f1))) (l1 : K.lookup f1 = some ⟨oc1, od1, .func (PySem.W.fnOf "is_whole" "is_whole" (defArgs s_is_whole) (defBody s_is_whole) (defScope s_is_whole) .none kV1 dc1 pm1 an1 cd1 ct1), sl1⟩) (c1 : PySem.W.codeIn K cd1 "is_whole" = true) (k1 : PySem.W.keepIn K (.ref f1) = true)
    (a2 : PySem.W.nsIn K mainGlobals "is_within" = some (some (.ref f2))) (l2 : K.lookup f2 = some ⟨oc2, od2, .func (PySem.W.fnOf "is_within" "is_within" (defArgs s_is_within) (defBody s_is_within) (defScope s_is_within) .none kV2 dc2 pm2 an2 cd2 ct2), sl2⟩) (c2 : PySem.W.codeIn K cd2 "is_within" = true) (k2 : PySem.W.keepIn K (.ref f2) = true)
    (a3 : PySem.W.nsIn K mainGlobals "is_plain" = some (some (.ref f3))) (l3 : K.lookup f3 = some ⟨oc3, od3, .func (PySem.W.fnOf "is_plain" "is_plain" (defArgs s_is_plain) (defBody s_is_plain) (defScope s_is_plain) .none kV3 dc3 pm3 an3 cd3 ct3), sl3⟩) (c3 : PySem.W.codeIn K cd3 "is_plain" = true) (k3 : PySem.W.keepIn K (.ref f3) = true)
    (a4 : PySem.W.nsIn K mainGlobals "is_clip" = some (some (.ref f4))) (l4 : K.lookup f4 = some ⟨oc4, od4, .func (PySem.W.fnOf "is_clip" "is_clip" (defArgs s_is_clip) (defBody s_is_clip) (defScope s_is_clip) .none kV4 dc4 pm4 an4 cd4 ct4), sl4⟩) (c4 : PySem.W.codeIn K cd4 "is_clip" = true) (k4 : PySem.W.keepIn K (.ref f4) = true)
    (a5 : PySem.W.nsIn K mainGlobals "is_word" = some (some (.ref f5))) (l5 : K.lookup f5 = some ⟨oc5, od5, .func (PySem.W.fnOf "is_word" "is_word" (defArgs s_is_word) (defBody s_is_word) (defScope s_is_word) .none kV5 dc5 pm5 an5 cd5 ct5), sl5⟩) (c5 : PySem.W.codeIn K cd5 "is_word" = true) (k5 : PySem.W.keepIn K (.ref f5) = true)
    (a6 : PySem.W.nsIn K mainGlobals "is_key" = some (some (.ref f6))) (l6 : K.lookup f6 = some ⟨oc6, od6, .func (PySem.W.fnOf "is_key" "is_key" (defArgs s_is_key) (defBody s_is_key) (defScope s_is_key) .none kV6 dc6 pm6 an6 cd6 ct6), sl6⟩) (c6 : PySem.W.codeIn K cd6 "is_key" = true) (k6 : PySem.W.keepIn K (.ref f6) = true)
    (a7 : PySem.W.nsIn K mainGlobals "key_weight" = some (some (.ref f7))) (l7 : K.lookup f7 = some ⟨oc7, od7, .func (PySem.W.fnOf "key_weight" "key_weight" (defArgs s_key_weight) (defBody s_key_weight) (defScope s_key_weight) .none kV7 dc7 pm7 an7 cd7 ct7), sl7⟩) (c7 : PySem.W.codeIn K cd7 "key_weight" = true) (k7 : PySem.W.keepIn K (.ref f7) = true)
    (a8 : PySem.W.nsIn K mainGlobals "weigh" = some (some (.ref f8))) (l8 : K.lookup f8 = some ⟨oc8, od8, .func (PySem.W.fnOf "weigh" "weigh" (defArgs s_weigh) (defBody s_weigh) (defScope s_weigh) .none kV8 dc8 pm8 an8 cd8 ct8), sl8⟩) (c8 : PySem.W.codeIn K cd8 "weigh" = true) (k8 : PySem.W.keepIn K (.ref f8) = true)
    (a9 : PySem.W.nsIn K mainGlobals "is_hand" = some (some (.ref f9))) (l9 : K.lookup f9 = some ⟨oc9, od9, .func (PySem.W.fnOf "is_hand" "is_hand" (defArgs s_is_hand) (defBody s_is_hand) (defScope s_is_hand) .none kV9 dc9 pm9 an9 cd9 ct9), sl9⟩) (c9 : PySem.W.codeIn K cd9 "is_hand" = true) (k9 : PySem.W.keepIn K (.ref f9) = true)
    (a10 : PySem.W.nsIn K mainGlobals "check_hand" = some (some (.ref f10))) (l10 : K.lookup f10 = some ⟨oc10, od10, .func (PySem.W.fnOf "check_hand" "check_hand" (defArgs s_check_hand) (defBody s_check_hand) (defScope s_check_hand) .none kV10 dc10 pm10 an10 cd10 ct10), sl10⟩) (c10 : PySem.W.codeIn K cd10 "check_hand" = true) (k10 : PySem.W.keepIn K (.ref f10) = true)
    (a11 : PySem.W.nsIn K mainGlobals "nearest" = some (some (.ref f11))) (l11 : K.lookup f11 = some ⟨oc11, od11, .func (PySem.W.fnOf "nearest" "nearest" (defArgs s_nearest) (defBody s_nearest) (defScope s_nearest) .none kV11 dc11 pm11 an11 cd11 ct11), sl11⟩) (c11 : PySem.W.codeIn K cd11 "nearest" = true) (k11 : PySem.W.keepIn K (.ref f11) = true)
    (a12 : PySem.W.nsIn K mainGlobals "take" = some (some (.ref f12))) (l12 : K.lookup f12 = some ⟨oc12, od12, .func (PySem.W.fnOf "take" "take" (defArgs s_take) (defBody s_take) (defScope s_take) .none kV12 dc12 pm12 an12 cd12 ct12), sl12⟩) (c12 : PySem.W.codeIn K cd12 "take" = true) (k12 : PySem.W.keepIn K (.ref f12) = true)
    (a13 : PySem.W.nsIn K mainGlobals "do_key" = some (some (.ref f13))) (l13 : K.lookup f13 = some ⟨oc13, od13, .func (PySem.W.fnOf "do_key" "do_key" (defArgs s_do_key) (defBody s_do_key) (defScope s_do_key) .none kV13 dc13 pm13 an13 cd13 ct13), sl13⟩) (c13 : PySem.W.codeIn K cd13 "do_key" = true) (k13 : PySem.W.keepIn K (.ref f13) = true)
    (a14 : PySem.W.nsIn K mainGlobals "go" = some (some (.ref f14))) (l14 : K.lookup f14 = some ⟨oc14, od14, .func (PySem.W.fnOf "go" "go" (defArgs s_go) (defBody s_go) (defScope s_go) .none kV14 dc14 pm14 an14 cd14 ct14), sl14⟩) (c14 : PySem.W.codeIn K cd14 "go" = true) (k14 : PySem.W.keepIn K (.ref f14) = true)
    (a15 : PySem.W.nsIn K mainGlobals "needed" = some (some (.ref f15))) (l15 : K.lookup f15 = some ⟨oc15, od15, .func (PySem.W.fnOf "needed" "needed" (defArgs s_needed) (defBody s_needed) (defScope s_needed) .none kV15 dc15 pm15 an15 cd15 ct15), sl15⟩) (c15 : PySem.W.codeIn K cd15 "needed" = true) (k15 : PySem.W.keepIn K (.ref f15) = true)
    (a16 : PySem.W.nsIn K mainGlobals "reach" = some (some (.ref f16))) (l16 : K.lookup f16 = some ⟨oc16, od16, .func (PySem.W.fnOf "reach" "reach" (defArgs s_reach) (defBody s_reach) (defScope s_reach) .none kV16 dc16 pm16 an16 cd16 ct16), sl16⟩) (c16 : PySem.W.codeIn K cd16 "reach" = true) (k16 : PySem.W.keepIn K (.ref f16) = true)
    (a17 : PySem.W.nsIn K mainGlobals "reaches" = some (some (.ref f17))) (l17 : K.lookup f17 = some ⟨oc17, od17, .func (PySem.W.fnOf "reaches" "reaches" (defArgs s_reaches) (defBody s_reaches) (defScope s_reaches) .none kV17 dc17 pm17 an17 cd17 ct17), sl17⟩) (c17 : PySem.W.codeIn K cd17 "reaches" = true) (k17 : PySem.W.keepIn K (.ref f17) = true)
    (a18 : PySem.W.nsIn K mainGlobals "is_lengths" = some (some (.ref f18))) (l18 : K.lookup f18 = some ⟨oc18, od18, .func (PySem.W.fnOf "is_lengths" "is_lengths" (defArgs s_is_lengths) (defBody s_is_lengths) (defScope s_is_lengths) .none kV18 dc18 pm18 an18 cd18 ct18), sl18⟩) (c18 : PySem.W.codeIn K cd18 "is_lengths" = true) (k18 : PySem.W.keepIn K (.ref f18) = true)
    (a19 : PySem.W.nsIn K mainGlobals "check_lengths" = some (some (.ref f19))) (l19 : K.lookup f19 = some ⟨oc19, od19, .func (PySem.W.fnOf "check_lengths" "check_lengths" (defArgs s_check_lengths) (defBody s_check_lengths) (defScope s_check_lengths) .none kV19 dc19 pm19 an19 cd19 ct19), sl19⟩) (c19 : PySem.W.codeIn K cd19 "check_lengths" = true) (k19 : PySem.W.keepIn K (.ref f19) = true)
    (a20 : PySem.W.nsIn K mainGlobals "check_near" = some (some (.ref f20))) (l20 : K.lookup f20 = some ⟨oc20, od20, .func (PySem.W.fnOf "check_near" "check_near" (defArgs s_check_near) (defBody s_check_near) (defScope s_check_near) .none kV20 dc20 pm20 an20 cd20 ct20), sl20⟩) (c20 : PySem.W.codeIn K cd20 "check_near" = true) (k20 : PySem.W.keepIn K (.ref f20) = true)
    (a21 : PySem.W.nsIn K mainGlobals "row_of" = some (some (.ref f21))) (l21 : K.lookup f21 = some ⟨oc21, od21, .func (PySem.W.fnOf "row_of" "row_of" (defArgs s_row_of) (defBody s_row_of) (defScope s_row_of) .none kV21 dc21 pm21 an21 cd21 ct21), sl21⟩) (c21 : PySem.W.codeIn K cd21 "row_of" = true) (k21 : PySem.W.keepIn K (.ref f21) = true)
    (a22 : PySem.W.nsIn K mainGlobals "sourced" = some (some (.ref f22))) (l22 : K.lookup f22 = some ⟨oc22, od22, .func (PySem.W.fnOf "sourced" "sourced" (defArgs s_sourced) (defBody s_sourced) (defScope s_sourced) .none kV22 dc22 pm22 an22 cd22 ct22), sl22⟩) (c22 : PySem.W.codeIn K cd22 "sourced" = true) (k22 : PySem.W.keepIn K (.ref f22) = true)
    (a23 : PySem.W.nsIn K mainGlobals "trace" = some (some (.ref f23))) (l23 : K.lookup f23 = some ⟨oc23, od23, .func (PySem.W.fnOf "trace" "trace" (defArgs s_trace) (defBody s_trace) (defScope s_trace) .none kV23 dc23 pm23 an23 cd23 ct23), sl23⟩) (c23 : PySem.W.codeIn K cd23 "trace" = true) (k23 : PySem.W.keepIn K (.ref f23) = true)
    (a24 : PySem.W.nsIn K mainGlobals "table" = some (some (.ref f24))) (l24 : K.lookup f24 = some ⟨oc24, od24, .func (PySem.W.fnOf "table" "table" (defArgs s_table) (defBody s_table) (defScope s_table) .none kV24 dc24 pm24 an24 cd24 ct24), sl24⟩) (c24 : PySem.W.codeIn K cd24 "table" = true) (k24 : PySem.W.keepIn K (.ref f24) = true)
    (a25 : PySem.W.nsIn K mainGlobals "_law_reel" = some (some (.ref f25))) (l25 : K.lookup f25 = some ⟨oc25, od25, .func (PySem.W.fnOf "_law_reel" "_law_reel" (defArgs s__law_reel) (defBody s__law_reel) (defScope s__law_reel) .none kV25 dc25 pm25 an25 cd25 ct25), sl25⟩) (c25 : PySem.W.codeIn K cd25 "_law_reel" = true) (k25 : PySem.W.keepIn K (.ref f25) = true)
    (a26 : PySem.W.nsIn K mainGlobals "_law_draw" = some (some (.ref f26))) (l26 : K.lookup f26 = some ⟨oc26, od26, .func (PySem.W.fnOf "_law_draw" "_law_draw" (defArgs s__law_draw) (defBody s__law_draw) (defScope s__law_draw) .none kV26 dc26 pm26 an26 cd26 ct26), sl26⟩) (c26 : PySem.W.codeIn K cd26 "_law_draw" = true) (k26 : PySem.W.keepIn K (.ref f26) = true)
    (a27 : PySem.W.nsIn K mainGlobals "_law_word" = some (some (.ref f27))) (l27 : K.lookup f27 = some ⟨oc27, od27, .func (PySem.W.fnOf "_law_word" "_law_word" (defArgs s__law_word) (defBody s__law_word) (defScope s__law_word) .none kV27 dc27 pm27 an27 cd27 ct27), sl27⟩) (c27 : PySem.W.codeIn K cd27 "_law_word" = true) (k27 : PySem.W.keepIn K (.ref f27) = true)
    (a28 : PySem.W.nsIn K mainGlobals "_law_any_hand" = some (some (.ref f28))) (l28 : K.lookup f28 = some ⟨oc28, od28, .func (PySem.W.fnOf "_law_any_hand" "_law_any_hand" (defArgs s__law_any_hand) (defBody s__law_any_hand) (defScope s__law_any_hand) .none kV28 dc28 pm28 an28 cd28 ct28), sl28⟩) (c28 : PySem.W.codeIn K cd28 "_law_any_hand" = true) (k28 : PySem.W.keepIn K (.ref f28) = true)
    (a29 : PySem.W.nsIn K mainGlobals "_law_ring_hand" = some (some (.ref f29))) (l29 : K.lookup f29 = some ⟨oc29, od29, .func (PySem.W.fnOf "_law_ring_hand" "_law_ring_hand" (defArgs s__law_ring_hand) (defBody s__law_ring_hand) (defScope s__law_ring_hand) .none kV29 dc29 pm29 an29 cd29 ct29), sl29⟩) (c29 : PySem.W.codeIn K cd29 "_law_ring_hand" = true) (k29 : PySem.W.keepIn K (.ref f29) = true)
    (a30 : PySem.W.nsIn K mainGlobals "_law_hand" = some (some (.ref f30))) (l30 : K.lookup f30 = some ⟨oc30, od30, .func (PySem.W.fnOf "_law_hand" "_law_hand" (defArgs s__law_hand) (defBody s__law_hand) (defScope s__law_hand) .none kV30 dc30 pm30 an30 cd30 ct30), sl30⟩) (c30 : PySem.W.codeIn K cd30 "_law_hand" = true) (k30 : PySem.W.keepIn K (.ref f30) = true)
    (a31 : PySem.W.nsIn K mainGlobals "_law_weight" = some (some (.ref f31))) (l31 : K.lookup f31 = some ⟨oc31, od31, .func (PySem.W.fnOf "_law_weight" "_law_weight" (defArgs s__law_weight) (defBody s__law_weight) (defScope s__law_weight) .none kV31 dc31 pm31 an31 cd31 ct31), sl31⟩) (c31 : PySem.W.codeIn K cd31 "_law_weight" = true) (k31 : PySem.W.keepIn K (.ref f31) = true)
    (a32 : PySem.W.nsIn K mainGlobals "law" = some (some (.ref f32))) (l32 : K.lookup f32 = some ⟨oc32, od32, .func (PySem.W.fnOf "law" "law" (defArgs s_law) (defBody s_law) (defScope s_law) .none kV32 dc32 pm32 an32 cd32 ct32), sl32⟩) (c32 : PySem.W.codeIn K cd32 "law" = true) (k32 : PySem.W.keepIn K (.ref f32) = true)
    (z_all : PySem.W.nsIn K mainGlobals "all" = some none)
    (z_enumerate : PySem.W.nsIn K mainGlobals "enumerate" = some none)
    (z_int : PySem.W.nsIn K mainGlobals "int" = some none)
    (z_len : PySem.W.nsIn K mainGlobals "len" = some none)
    (z_list : PySem.W.nsIn K mainGlobals "list" = some none)
    (z_max : PySem.W.nsIn K mainGlobals "max" = some none)
    (z_min : PySem.W.nsIn K mainGlobals "min" = some none)
    (z_range : PySem.W.nsIn K mainGlobals "range" = some none)
    (z_str : PySem.W.nsIn K mainGlobals "str" = some none)
    (z_sum : PySem.W.nsIn K mainGlobals "sum" = some none)
    (z_tuple : PySem.W.nsIn K mainGlobals "tuple" = some none)
    (z_type : PySem.W.nsIn K mainGlobals "type" = some none)
    (v_ALPHABET : PySem.W.nsIn K mainGlobals "ALPHABET" = some (some (.str "abcdefghijklmnopqrstuvwxyz" t_ALPHABET)))
    (v_HEAVIEST : PySem.W.nsIn K mainGlobals "HEAVIEST" = some (some (.int 60 t_HEAVIEST)))
    (v_LONGEST_SIDE : PySem.W.nsIn K mainGlobals "LONGEST_SIDE" = some (some (.int 200 t_LONGEST_SIDE)))
    (v_LONGEST_WORD : PySem.W.nsIn K mainGlobals "LONGEST_WORD" = some (some (.int 60 t_LONGEST_WORD)))
    (v_NUMBERS : PySem.W.nsIn K mainGlobals "NUMBERS" = some (some (.ref d_NUMBERS))) (l_NUMBERS : K.lookup d_NUMBERS = some ⟨.type "dict", none, .dict es_NUMBERS n_NUMBERS, #[]⟩) (k_NUMBERS : PySem.W.KeysLit w.params es_NUMBERS.toList) (b_NUMBERS : (d_NUMBERS == sysModules) = false) (e_NUMBERS : es_NUMBERS.toList.map dti = ([("left", 0), ("right", 1), ("clip", 2)] : List (Str × Int)).map some)
    (v_SIDES : PySem.W.nsIn K mainGlobals "SIDES" = some (some (.ref d_SIDES))) (l_SIDES : K.lookup d_SIDES = some ⟨.type "dict", none, .dict es_SIDES n_SIDES, #[]⟩) (k_SIDES : PySem.W.KeysLit w.params es_SIDES.toList) (b_SIDES : (d_SIDES == sysModules) = false) (e_SIDES : es_SIDES.toList.map dtx = ([("left", "left"), ("rub", "left"), ("right", "right"), ("strike", "right"), ("copy", "right"), ("cut", "right")] : List (Str × Str)).map some) :
    ∃ fd : FuncData, (∀ (s : Shared) (v : Value), BindsTo s fd ⟨[v], []⟩ [("script", v)]) ∧ ∀ base : Heap, K.In base → base.Ns mainGlobals mg → FnOk l.prog w K mg base L2.CX0 8 fa fd ["script"] (spLaw K) := by
  have e := hfa.symm.trans (PySem.W.mg_of X G a32)
  cases e
  have F0 := fun_mk (st := s_is_row) l0 c0 k0
  have F1 := fun_mk (st := s_is_whole) l1 c1 k1
  have F2 := fun_mk (st := s_is_within) l2 c2 k2
  have F3 := fun_mk (st := s_is_plain) l3 c3 k3
  have F4 := fun_mk (st := s_is_clip) l4 c4 k4
  have F5 := fun_mk (st := s_is_word) l5 c5 k5
  have F6 := fun_mk (st := s_is_key) l6 c6 k6
  have F7 := fun_mk (st := s_key_weight) l7 c7 k7
  have F8 := fun_mk (st := s_weigh) l8 c8 k8
  have F9 := fun_mk (st := s_is_hand) l9 c9 k9
  have F10 := fun_mk (st := s_check_hand) l10 c10 k10
  have F11 := fun_mk (st := s_nearest) l11 c11 k11
  have F12 := fun_mk (st := s_take) l12 c12 k12
  have F13 := fun_mk (st := s_do_key) l13 c13 k13
  have F14 := fun_mk (st := s_go) l14 c14 k14
  have F15 := fun_mk (st := s_needed) l15 c15 k15
  have F16 := fun_mk (st := s_reach) l16 c16 k16
  have F17 := fun_mk (st := s_reaches) l17 c17 k17
  have F18 := fun_mk (st := s_is_lengths) l18 c18 k18
  have F19 := fun_mk (st := s_check_lengths) l19 c19 k19
  have F20 := fun_mk (st := s_check_near) l20 c20 k20
  have F21 := fun_mk (st := s_row_of) l21 c21 k21
  have F22 := fun_mk (st := s_sourced) l22 c22 k22
  have F23 := fun_mk (st := s_trace) l23 c23 k23
  have F24 := fun_mk (st := s_table) l24 c24 k24
  have F25 := fun_mk (st := s__law_reel) l25 c25 k25
  have F26 := fun_mk (st := s__law_draw) l26 c26 k26
  have F27 := fun_mk (st := s__law_word) l27 c27 k27
  have F28 := fun_mk (st := s__law_any_hand) l28 c28 k28
  have F29 := fun_mk (st := s__law_ring_hand) l29 c29 k29
  have F30 := fun_mk (st := s__law_hand) l30 c30 k30
  have F31 := fun_mk (st := s__law_weight) l31 c31 k31
  have F32 := fun_mk (st := s_law) l32 c32 k32
  let T : Txt K mg w := ⟨⟨f0, _, F0, PySem.W.mg_of X G a0, F0.binds (ps := ["thing"]) fun _ _ _ _ _ _ us hl => match us, hl with | [_], _ => rfl⟩,
    ⟨f1, _, F1, PySem.W.mg_of X G a1, F1.binds (ps := ["thing", "low"]) fun _ _ _ _ _ _ us hl => match us, hl with | [_, _], _ => rfl⟩,
    ⟨f2, _, F2, PySem.W.mg_of X G a2, F2.binds (ps := ["thing", "low", "high"]) fun _ _ _ _ _ _ us hl => match us, hl with | [_, _, _], _ => rfl⟩,
    ⟨f3, _, F3, PySem.W.mg_of X G a3, F3.binds (ps := ["thing"]) fun _ _ _ _ _ _ us hl => match us, hl with | [_], _ => rfl⟩,
    ⟨f4, _, F4, PySem.W.mg_of X G a4, F4.binds (ps := ["thing"]) fun _ _ _ _ _ _ us hl => match us, hl with | [_], _ => rfl⟩,
    ⟨f5, _, F5, PySem.W.mg_of X G a5, F5.binds (ps := ["thing"]) fun _ _ _ _ _ _ us hl => match us, hl with | [_], _ => rfl⟩,
    ⟨f6, _, F6, PySem.W.mg_of X G a6, F6.binds (ps := ["thing"]) fun _ _ _ _ _ _ us hl => match us, hl with | [_], _ => rfl⟩,
    ⟨f7, _, F7, PySem.W.mg_of X G a7, F7.binds (ps := ["key"]) fun _ _ _ _ _ _ us hl => match us, hl with | [_], _ => rfl⟩,
    ⟨f8, _, F8, PySem.W.mg_of X G a8, F8.binds (ps := ["keys"]) fun _ _ _ _ _ _ us hl => match us, hl with | [_], _ => rfl⟩,
    ⟨f9, _, F9, PySem.W.mg_of X G a9, F9.binds (ps := ["thing"]) fun _ _ _ _ _ _ us hl => match us, hl with | [_], _ => rfl⟩,
    ⟨f10, _, F10, PySem.W.mg_of X G a10, F10.binds (ps := ["thing"]) fun _ _ _ _ _ _ us hl => match us, hl with | [_], _ => rfl⟩,
    ⟨f11, _, F11, PySem.W.mg_of X G a11, F11.binds (ps := ["side", "many"]) fun _ _ _ _ _ _ us hl => match us, hl with | [_, _], _ => rfl⟩,
    ⟨f12, _, F12, PySem.W.mg_of X G a12, F12.binds (ps := ["side", "many"]) fun _ _ _ _ _ _ us hl => match us, hl with | [_, _], _ => rfl⟩,
    ⟨f13, _, F13, PySem.W.mg_of X G a13, F13.binds (ps := ["key", "left", "right", "held"]) fun _ _ _ _ _ _ us hl => match us, hl with | [_, _, _, _], _ => rfl⟩,
    ⟨f14, _, F14, PySem.W.mg_of X G a14, F14.binds (ps := ["key", "lengths"]) fun _ _ _ _ _ _ us hl => match us, hl with | [_, _], _ => rfl⟩,
    ⟨f15, _, F15, PySem.W.mg_of X G a15, F15.binds (ps := ["hand", "side", "lengths"]) fun _ _ _ _ _ _ us hl => match us, hl with | [_, _, _], _ => rfl⟩,
    ⟨f16, _, F16, PySem.W.mg_of X G a16, F16.binds (ps := ["hand", "side"]) fun _ _ _ _ _ _ us hl => match us, hl with | [_, _], _ => rfl⟩,
    ⟨f17, _, F17, PySem.W.mg_of X G a17, F17.binds (ps := ["hand"]) fun _ _ _ _ _ _ us hl => match us, hl with | [_], _ => rfl⟩,
    ⟨f18, _, F18, PySem.W.mg_of X G a18, F18.binds (ps := ["thing"]) fun _ _ _ _ _ _ us hl => match us, hl with | [_], _ => rfl⟩,
    ⟨f19, _, F19, PySem.W.mg_of X G a19, F19.binds (ps := ["thing"]) fun _ _ _ _ _ _ us hl => match us, hl with | [_], _ => rfl⟩,
    ⟨f20, _, F20, PySem.W.mg_of X G a20, F20.binds (ps := ["thing"]) fun _ _ _ _ _ _ us hl => match us, hl with | [_], _ => rfl⟩,
    ⟨f21, _, F21, PySem.W.mg_of X G a21, F21.binds (ps := ["side", "many"]) fun _ _ _ _ _ _ us hl => match us, hl with | [_, _], _ => rfl⟩,
    ⟨f22, _, F22, PySem.W.mg_of X G a22, F22.binds (ps := ["hand"]) fun _ _ _ _ _ _ us hl => match us, hl with | [_], _ => rfl⟩,
    ⟨f23, _, F23, PySem.W.mg_of X G a23, F23.binds (ps := ["keys", "lengths"]) fun _ _ _ _ _ _ us hl => match us, hl with | [_, _], _ => rfl⟩,
    ⟨f24, _, F24, PySem.W.mg_of X G a24, F24.binds (ps := ["hand", "lengths"]) fun _ _ _ _ _ _ us hl => match us, hl with | [_, _], _ => rfl⟩,
    ⟨f25, _, F25, PySem.W.mg_of X G a25, F25.binds (ps := ["script"]) fun _ _ _ _ _ _ us hl => match us, hl with | [_], _ => rfl⟩,
    ⟨f26, _, F26, PySem.W.mg_of X G a26, F26.binds (ps := ["reel", "many"]) fun _ _ _ _ _ _ us hl => match us, hl with | [_, _], _ => rfl⟩,
    ⟨f27, _, F27, PySem.W.mg_of X G a27, F27.binds (ps := ["reel", "many"]) fun _ _ _ _ _ _ us hl => match us, hl with | [_, _], _ => rfl⟩,
    ⟨f28, _, F28, PySem.W.mg_of X G a28, F28.binds (ps := ["reel", "most"]) fun _ _ _ _ _ _ us hl => match us, hl with | [_, _], _ => rfl⟩,
    ⟨f29, _, F29, PySem.W.mg_of X G a29, F29.binds (ps := ["reel"]) fun _ _ _ _ _ _ us hl => match us, hl with | [_], _ => rfl⟩,
    ⟨f30, _, F30, PySem.W.mg_of X G a30, F30.binds (ps := ["reel", "most"]) fun _ _ _ _ _ _ us hl => match us, hl with | [_, _], _ => rfl⟩,
    ⟨f31, _, F31, PySem.W.mg_of X G a31, F31.binds (ps := ["hand"]) fun _ _ _ _ _ _ us hl => match us, hl with | [_], _ => rfl⟩,
    ⟨fa, _, F32, PySem.W.mg_of X G a32, F32.binds (ps := ["script"]) fun _ _ _ _ _ _ us hl => match us, hl with | [_], _ => rfl⟩,
    PySem.W.mg_none_of X G z_all,
    PySem.W.mg_none_of X G z_enumerate,
    PySem.W.mg_none_of X G z_int,
    PySem.W.mg_none_of X G z_len,
    PySem.W.mg_none_of X G z_list,
    PySem.W.mg_none_of X G z_max,
    PySem.W.mg_none_of X G z_min,
    PySem.W.mg_none_of X G z_range,
    PySem.W.mg_none_of X G z_str,
    PySem.W.mg_none_of X G z_sum,
    PySem.W.mg_none_of X G z_tuple,
    PySem.W.mg_none_of X G z_type,
    ⟨_, PySem.W.mg_of X G v_ALPHABET⟩,
    ⟨_, PySem.W.mg_of X G v_HEAVIEST⟩,
    ⟨_, PySem.W.mg_of X G v_LONGEST_SIDE⟩,
    ⟨_, PySem.W.mg_of X G v_LONGEST_WORD⟩,
    ⟨d_NUMBERS, es_NUMBERS, n_NUMBERS, PySem.W.mg_of X G v_NUMBERS, ⟨l_NUMBERS, k_NUMBERS, b_NUMBERS⟩, e_NUMBERS⟩,
    ⟨d_SIDES, es_SIDES, n_SIDES, PySem.W.mg_of X G v_SIDES, ⟨l_SIDES, k_SIDES, b_SIDES⟩, e_SIDES⟩⟩
  exact ⟨T.f_law.fd, fun s v => .of_eq rfl, fun base _ _ => ok_law T⟩
end BK
open PySem PySem.W PyProof.Rows
set_option maxRecDepth 100000 in
set_option maxHeartbeats 0 in
theorem PySem.Challenge.cw_blindkeys_k14_whole_far_letters_lie_as_t_holds : PySem.Challenge.rw_blindkeys_k14_whole_far_letters_lie_as_t.Holds := by
  w_on; o_law; k_head; (case hw => w_witness2)
  k_fill
  refine L2.walk_of (l := PySem.Challenge.rw_blindkeys_k14_whole_far_letters_lie_as_t) (n := 63) (k := 8) (x := "script") (CX := fun _ => L2.CX0) (sp := fun w => BK.spLaw _) rfl (by decide) rfl ⟨rfl, by decide, by decide⟩ (fun w h Y => PySem.W.kIn_of Y) ?F (fun _ _ a ns hl _ hS => ⟨a, ns, rfl, hS, hl, fun _ => rfl⟩) (fun _ _ _ _ _ h => h)
  case F =>
    intro w mg fa h KX G hmg
    refine' BK.all_mk KX G hmg ?a0 ?l0 ?c0 ?k0 ?a1 ?l1 ?c1 ?k1 ?a2 ?l2 ?c2 ?k2 ?a3 ?l3 ?c3 ?k3 ?a4 ?l4 ?c4 ?k4 ?a5 ?l5 ?c5 ?k5 ?a6 ?l6 ?c6 ?k6 ?a7 ?l7 ?c7 ?k7 ?a8 ?l8 ?c8 ?k8 ?a9 ?l9 ?c9 ?k9 ?a10 ?l10 ?c10 ?k10 ?a11 ?l11 ?c11 ?k11 ?a12 ?l12 ?c12 ?k12 ?a13 ?l13 ?c13 ?k13 ?a14 ?l14 ?c14 ?k14 ?a15 ?l15 ?c15 ?k15 ?a16 ?l16 ?c16 ?k16 ?a17 ?l17 ?c17 ?k17 ?a18 ?l18 ?c18 ?k18 ?a19 ?l19 ?c19 ?k19 ?a20 ?l20 ?c20 ?k20 ?a21 ?l21 ?c21 ?k21 ?a22 ?l22 ?c22 ?k22 ?a23 ?l23 ?c23 ?k23 ?a24 ?l24 ?c24 ?k24 ?a25 ?l25 ?c25 ?k25 ?a26 ?l26 ?c26 ?k26 ?a27 ?l27 ?c27 ?k27 ?a28 ?l28 ?c28 ?k28 ?a29 ?l29 ?c29 ?k29 ?a30 ?l30 ?c30 ?k30 ?a31 ?l31 ?c31 ?k31 ?a32 ?l32 ?c32 ?k32 ?z_all ?z_enumerate ?z_int ?z_len ?z_list ?z_max ?z_min ?z_range ?z_str ?z_sum ?z_tuple ?z_type ?v_ALPHABET ?v_HEAVIEST ?v_LONGEST_SIDE ?v_LONGEST_WORD ?v_NUMBERS ?l_NUMBERS ?k_NUMBERS ?b_NUMBERS ?e_NUMBERS ?v_SIDES ?l_SIDES ?k_SIDES ?b_SIDES ?e_SIDES
    (case a0 => k_is)
    (case l0 => k_is)
    (case c0 => k_is)
    (case k0 => k_is)
    (case a1 => k_is)
    (case l1 => k_is)
    (case c1 => k_is)
    (case k1 => k_is)
    (case a2 => k_is)
    (case l2 => k_is)
    (case c2 => k_is)
    (case k2 => k_is)
    (case a3 => k_is)
    (case l3 => k_is)
    (case c3 => k_is)
    (case k3 => k_is)
    (case a4 => k_is)
    (case l4 => k_is)
    (case c4 => k_is)
    (case k4 => k_is)
    (case a5 => k_is)
    (case l5 => k_is)
    (case c5 => k_is)
    (case k5 => k_is)
    (case a6 => k_is)
    (case l6 => k_is)
    (case c6 => k_is)
    (case k6 => k_is)
    (case a7 => k_is)
    (case l7 => k_is)
    (case c7 => k_is)
    (case k7 => k_is)
    (case a8 => k_is)
    (case l8 => k_is)
    (case c8 => k_is)
    (case k8 => k_is)
    (case a9 => k_is)
    (case l9 => k_is)
    (case c9 => k_is)
    (case k9 => k_is)
    (case a10 => k_is)
    (case l10 => k_is)
    (case c10 => k_is)
    (case k10 => k_is)
    (case a11 => k_is)
    (case l11 => k_is)
    (case c11 => k_is)
    (case k11 => k_is)
    (case a12 => k_is)
    (case l12 => k_is)
    (case c12 => k_is)
    (case k12 => k_is)
    (case a13 => k_is)
    (case l13 => k_is)
    (case c13 => k_is)
    (case k13 => k_is)
    (case a14 => k_is)
    (case l14 => k_is)
    (case c14 => k_is)
    (case k14 => k_is)
    (case a15 => k_is)
    (case l15 => k_is)
    (case c15 => k_is)
    (case k15 => k_is)
    (case a16 => k_is)
    (case l16 => k_is)
    (case c16 => k_is)
    (case k16 => k_is)
    (case a17 => k_is)
    (case l17 => k_is)
    (case c17 => k_is)
    (case k17 => k_is)
    (case a18 => k_is)
    (case l18 => k_is)
    (case c18 => k_is)
    (case k18 => k_is)
    (case a19 => k_is)
    (case l19 => k_is)
    (case c19 => k_is)
    (case k19 => k_is)
    (case a20 => k_is)
    (case l20 => k_is)
    (case c20 => k_is)
    (case k20 => k_is)
    (case a21 => k_is)
    (case l21 => k_is)
    (case c21 => k_is)
    (case k21 => k_is)
    (case a22 => k_is)
    (case l22 => k_is)
    (case c22 => k_is)
    (case k22 => k_is)
    (case a23 => k_is)
    (case l23 => k_is)
    (case c23 => k_is)
    (case k23 => k_is)
    (case a24 => k_is)
    (case l24 => k_is)
    (case c24 => k_is)
    (case k24 => k_is)
    (case a25 => k_is)
    (case l25 => k_is)
    (case c25 => k_is)
    (case k25 => k_is)
    (case a26 => k_is)
    (case l26 => k_is)
    (case c26 => k_is)
    (case k26 => k_is)
    (case a27 => k_is)
    (case l27 => k_is)
    (case c27 => k_is)
    (case k27 => k_is)
    (case a28 => k_is)
    (case l28 => k_is)
    (case c28 => k_is)
    (case k28 => k_is)
    (case a29 => k_is)
    (case l29 => k_is)
    (case c29 => k_is)
    (case k29 => k_is)
    (case a30 => k_is)
    (case l30 => k_is)
    (case c30 => k_is)
    (case k30 => k_is)
    (case a31 => k_is)
    (case l31 => k_is)
    (case c31 => k_is)
    (case k31 => k_is)
    (case a32 => k_is)
    (case l32 => k_is)
    (case c32 => k_is)
    (case k32 => k_is)
    (case z_all => k_is)
    (case z_enumerate => k_is)
    (case z_int => k_is)
    (case z_len => k_is)
    (case z_list => k_is)
    (case z_max => k_is)
    (case z_min => k_is)
    (case z_range => k_is)
    (case z_str => k_is)
    (case z_sum => k_is)
    (case z_tuple => k_is)
    (case z_type => k_is)
    (case v_ALPHABET => k_is)
    (case v_HEAVIEST => k_is)
    (case v_LONGEST_SIDE => k_is)
    (case v_LONGEST_WORD => k_is)
    (case v_NUMBERS => k_is)
    (case l_NUMBERS => k_is)
    (case k_NUMBERS => k_keys)
    (case b_NUMBERS => rfl)
    (case e_NUMBERS => rfl)
    (case v_SIDES => k_is)
    (case l_SIDES => k_is)
    (case k_SIDES => k_keys)
    (case b_SIDES => rfl)
    (case e_SIDES => rfl)
