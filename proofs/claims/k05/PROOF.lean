import PyProof.Rows.All
import Wide.All
import OpenK.AllK
import Wide.FinOn
import PyProof.TypeEq
import PyProof.Rows.StrMul
import PyProof.LongRange
import HandS.ForMost
import HandS.Wide
import HandS.WideBits
import HandS.More
import HandS.StrMore
import HandS.NoneIn
import HandS.Flow
import HandS.SortInts
import PyProof.ListStr
import HandS.Defaults
import HandS.Dict
import HandS.Conv
import HandS.Replace
import PyProof.ReprRoads
import PyProof.ReprBulk
import HandS.IsInst
import HandS.Codes
import HandS.Style
import HandS.ForExc
import HandS.ExcIs
import HandS.ExcValue
import HandS.CallSlots
import PySem.Challenge.RW_blindkeys_k05_texts_refused
set_option Elab.async false
set_option linter.all false
set_option maxRecDepth 100000
set_option maxHeartbeats 4000000
namespace BK
open PySem PySem.Spec PyProof.Rows L2

/-! ### more rules -/
section
variable {A : Around} {s : Shared}
theorem meta_of {n : String} (h : n ∈ ["int", "str", "bool", "NoneType", "list", "tuple", "dict"]) (s' : Shared) : s'.TypeIs (.type n) "type" := by
  simp only [List.mem_cons, List.not_mem_nil, or_false] at h
  rcases h with rfl | rfl | rfl | rfl | rfl | rfl | rfl
  · exact TypeEq.meta_int s'
  · exact TypeEq.meta_str s'
  · exact TypeEq.meta_bool s'
  · exact TypeEq.meta_NoneType s'
  · exact TypeEq.meta_list s'
  · exact TypeEq.meta_tuple s'
  · exact TypeEq.meta_dict s'
theorem eqAt_ty {a b : String} (ha : a ∈ ["int", "str", "bool", "NoneType", "list", "tuple", "dict"]) (hb : b ∈ ["int", "str", "bool", "NoneType", "list", "tuple", "dict"]) : SeqAt.EqAt A s (.type a) (.type b) (decide (a = b)) := fun prog w E Q h => by
  unfold eqBool
  refine wpAny_holding ?_
  by_cases e : a = b
  · subst e
    rw [decide_eq_true rfl] at h
    refine wpAny_ite_split (fun _ => wpAny_bind (wpAny_rule (wpAny_pure h))) (fun hab => absurd (beq_self_eq_true _) hab)
  · rw [decide_eq_false e] at h
    have hne : (Value.type a == Value.type b) = false := beq_eq_false_iff_ne.mpr fun z => e (Value.type.inj z)
    refine wpAny_ite_split (fun hab => absurd hab (by rw [hne]; exact Bool.false_ne_true)) (fun _ => ?_)
    exact wpAny_bind (TypeEq.eq_type_other (meta_of ha) (meta_of hb) hne (wpAny_truthy_bool h))
end
abbrev knownTy : List String := ["int", "str", "bool", "NoneType", "list", "tuple", "dict"]
/-- type(x) in (list, tuple) -/
def rInTy (K : PySem.W.Frag) : R2 := fun x y H Q => ∃ (a : String) (p : Addr) (ns : List String), x = .ty a ∧ y = .ref p ∧ SqT K H p (ns.map V.ty) ∧ a ∈ knownTy ∧ (∀ n ∈ ns, n ∈ knownTy) ∧ Q (.bl (decide (a ∈ ns))) H
theorem vals_ty : ∀ {ns : List String} {us : List Value}, Vals (ns.map V.ty) us → us = ns.map Value.type
  | [], _, .nil => rfl
  | n :: ns, _, .cons r t => by
    have e := vals_ty t
    cases (show _ = Value.type n from r)
    rw [e, List.map_cons]
section
variable {X : Cx}
theorem op_in_ty : OpR X (compareOp .In) (rInTy X.K) := by
  intro pins s σ H x y v u Q I rx ry h
  obtain ⟨a, p, ns, rfl, rfl, hq, ha, hn, q⟩ := h
  cases (show v = Value.type a from rx)
  cases (show u = Value.ref p from ry)
  obtain ⟨its, r, pl, hz⟩ := I.tuple hq
  have e := vals_ty r
  subst e
  refine SeqAt.in_tupleAt (fun y => match y with | .type n => decide (n = a) | _ => false) pl (fun w hw => ?_) ⟨.bl _, H, I, rfl, ?_⟩
  · simp only [List.mem_toArray, List.mem_map] at hw
    obtain ⟨n, hn1, rfl⟩ := hw
    exact eqAt_ty (hn n hn1) ha
  · have e : (((ns.map Value.type).toArray).any (fun y => match y with | .type n => decide (n = a) | _ => false)) = decide (a ∈ ns) := by
      rw [List.any_toArray, List.any_map, Bool.eq_iff_iff, List.any_eq_true, decide_eq_true_iff]
      constructor
      · rintro ⟨n, h1, h2⟩
        have : n = a := of_decide_eq_true h2
        subst this
        exact h1
      · intro h1
        exact ⟨a, h1, decide_eq_true rfl⟩
    rw [e]
    exact q
/-- text * int -/
def rMulS : R2 := fun x y H Q => ∃ z n, x = .str z ∧ y = .int n ∧ MulOk z n ∧ Q (.str (Txt.mul z n)) H
theorem op_mul_str : OpR X (binaryOp .Mult) rMulS := by
  intro pins s σ H x y v u Q I rx ry h
  obtain ⟨z, n, rfl, rfl, ok, q⟩ := h
  obtain ⟨t, rfl⟩ := rx
  obtain ⟨t', rfl⟩ := ry
  exact SB.mul ok fun t2 k => ⟨.str _, H, I.tok _, ⟨_, rfl⟩, q⟩
theorem OpR.or {f : Value → Value → Sem Value} {r r' : R2} (h : OpR X f r) (h' : OpR X f r') : OpR X f (fun x y H Q => r x y H Q ∨ r' x y H Q) := by
  intro pins s σ H x y v u Q I rx ry hh
  rcases hh with hh | hh
  · exact h pins s σ H x y v u Q I rx ry hh
  · exact h' pins s σ H x y v u Q I rx ry hh
theorem pi_or {tg it : PySem.Expr} {w1 w2 : TI} (h1 : PI X tg it w1) (h2 : PI X tg it w2) : PI X tg it (fun σ H R => w1 σ H R ∨ w2 σ H R) := ⟨fun pins s σ H R I h => by
  rcases h with h | h
  · exact h1.run pins s σ H R I h
  · exact h2.run pins s σ H R I h⟩
theorem pg_or {tg : PySem.Expr} {g1 g2 : TG} (h1 : PG X tg g1) (h2 : PG X tg g2) : PG X tg (fun v σ H Q => g1 v σ H Q ∨ g2 v σ H Q) := ⟨fun pins s σ H v u Q I r h => by
  rcases h with h | h
  · exact h1.run pins s σ H v u Q I r h
  · exact h2.run pins s σ H v u Q I r h⟩
end

/-! ### range(a, b) of any ints -/
section
theorem turn_long {P : Program} {w : World} {K : PySem.W.Frag} {tg : PySem.Expr} (it : Addr) (lo : Int) (n : Nat) : Turn P w K tg (Itr lo n) [it] it (fun i h => IsLongIter h it (lo + (i : Nat) * 1) ((n : Int) - (i : Nat)) 1) where
  mem := by simp
  obj := fun i h st b hb => by
    have e : b = it := by simpa using hb
    subst e
    exact ⟨_, st, fun v z => by
      have z' : Data.fields _ = Data.cell v := z
      cases z'⟩
  keep := fun i h h' st k => k it (by simp) _ st
  item := by
    intro X hP hw hK hc i pins s σ H E I hf st hg
    subst hP hw hK
    obtain ⟨f0, f1, f2, f3, f4, f5⟩ := hf it (by simp)
    have W := Walks.longrange (prog := X.prog) (w := X.w) (I.ok.hd hc) it lo 1 n
    refine W.item i s _ _ hg st fun v h' tk hv st' kk => ?_
    obtain ⟨t, rfl⟩ := hv
    have I1 : Inv X pins σ H { s with heap := h', toks := tk } := I.turned (fun b o hb e => kk b o (by simpa using hb) e) f0 f1 f3 f4 f5
    refine ⟨_, rfl, go_of (s := { s with heap := h', toks := tk }) (n := "longrange_iterator") st' rfl rfl (by decide) ⟨.int (lo + i), H, I1, ⟨t, ?_⟩, ⟨rfl, rfl⟩, st', fun b hb => (hf b hb).1⟩⟩
    rw [Int.mul_one]
  done := by
    intro X hP hw hK hc i pins s σ H E I hf st hg
    subst hP hw hK
    obtain ⟨f0, f1, f2, f3, f4, f5⟩ := hf it (by simp)
    exact wpAny_pyNext_long_end (I.ok.hd hc) st (by have : n ≤ i := hg; omega) fun h' eb => ⟨rfl, I.turned (t' := s.toks) (fun b o hb e => eb b o hb e) f0 f1 f3 f4 f5⟩
  self := fun _ _ _ _ _ st h => wpAny_pyIter_longiter st h
variable {X : Cx} {tg : PySem.Expr}
theorem rsize1 (lo hi : Int) : Builtin.Range.rangeSize lo hi 1 = (((hi - lo).toNat : Nat) : Int) := by
  rw [rangeSize_one]
  split <;> omega
theorem range_itL {pins : List (Addr × Obj)} {σ : L2.St} {H : Hp} {s : Shared} {R : It → Hp → Prop} {E : Value → Shared → Prop} {lo hi : Int} {t u v : Tok} {tk : Nat} (I : Inv X pins σ H s)
    (q : R (Itr lo (hi - lo).toNat) H) : wpAny (model X.prog X.w) X.A (pyIter (.ref s.heap.objs.size)) (PIE X pins σ tg R) E { s with heap := s.heap.push { cls := .type "range", data := .fields #[.int lo t, .int hi u, .int 1 v] }, toks := tk } := by
  have I1 : Inv X pins σ H { s with heap := s.heap.push { cls := .type "range", data := .fields #[.int lo t, .int hi u, .int 1 v] }, toks := tk } := I.kept fun b o e => Heap.get?_push_of_some _ e
  have e1 : lo + ((0 : Nat) : Int) * 1 = lo := by simp
  have e2 : (((hi - lo).toNat : Nat) : Int) - ((0 : Nat) : Int) = Builtin.Range.rangeSize lo hi 1 := by rw [rsize1]; omega
  have hf : ∀ b ∈ [(s.heap.push { cls := .type "range", data := .fields #[.int lo t, .int hi u, .int 1 v] }).objs.size], FpOk X pins H b := fun b hb => by
    have e : b = (s.heap.push { cls := .type "range", data := .fields #[.int lo t, .int hi u, .int 1 v] }).objs.size := by simpa using hb
    subst e
    exact I1.fpOk (Nat.le_refl _) (I1.hok.fresh (Nat.le_refl _))
  cases hs : Builtin.Range.small lo hi 1 with
  | true =>
    refine wpAny_pyIter_range (IsRange.new ..) hs ?_
    refine ⟨(s.heap.push { cls := .type "range", data := .fields #[.int lo t, .int hi u, .int 1 v] }).objs.size, [(s.heap.push { cls := .type "range", data := .fields #[.int lo t, .int hi u, .int 1 v] }).objs.size], _, _, H, rfl,
      I1.kept (t' := tk) fun b o e => Heap.get?_push_of_some _ e, turn_range _ lo (hi - lo).toNat, ?_, hf, q⟩
    show IsRangeIter _ _ (lo + ((0 : Nat) : Int) * 1) ((((hi - lo).toNat : Nat) : Int) - ((0 : Nat) : Int)) 1
    rw [e1, e2]
    exact Heap.get?_push_size _ rfl
  | false =>
    refine wpAny_pyIter_longrange (IsRange.new ..) hs ?_
    refine ⟨(s.heap.push { cls := .type "range", data := .fields #[.int lo t, .int hi u, .int 1 v] }).objs.size, [(s.heap.push { cls := .type "range", data := .fields #[.int lo t, .int hi u, .int 1 v] }).objs.size], _, _, H, rfl,
      I1.kept (t' := tk) fun b o e => Heap.get?_push_of_some _ e, turn_long _ lo (hi - lo).toNat, ?_, hf, q⟩
    show IsLongIter _ _ (lo + ((0 : Nat) : Int) * 1) ((((hi - lo).toNat : Nat) : Int) - ((0 : Nat) : Int)) 1
    rw [e1, e2]
    exact Heap.get?_push_size _ rfl
def iRng2L (ta : TA) : TI := fun σ H R => ta σ H fun vs H1 => ∃ i j : Int, vs = [.int i, .int j] ∧ R (Itr i (j - i).toNat) H1
theorem pi_range2L {a b : PySem.Expr} {ta : TA} {p pos : Pos} (hg : Gl X "range") (hm : X.mg "range" = none) (ha : PA X [a, b] ta) (hs : starEach [a, b] X.env = [(false, eval a X.env), (false, eval b X.env)] := by rfl) (hs2 : starEach [b] X.env = [(false, eval b X.env)] := by rfl) :
    PI X tg (.Call (.Name "range" p) [a, b] [] pos) (iRng2L ta) := by
  refine ⟨fun pins s σ H R I h => ?_⟩
  refine Call_ (ld_blt I hg hm boot_range (PyProof.Rows.callWith_type1 (thn (ha.run pos pins s σ H _ I h) fun us s1 ⟨vs, H1, I1, r1, q1⟩ => ?_) (by rw [hs, hs2]) (by rw [hs2]; rfl)))
  obtain ⟨i, j, e, q⟩ := q1
  subst e
  cases r1 with
  | cons r rr =>
    cases rr with
    | cons r' rr =>
      cases rr
      obtain ⟨t, rfl⟩ := r
      obtain ⟨t', rfl⟩ := r'
      exact call_range_2 (range_itL I1 q)
end

/-! ### rows: a list or a tuple -/
def Row (K : PySem.W.Frag) (H : Hp) (a : Addr) (xs : List V) : Prop := SqL K H a xs ∨ SqT K H a xs
theorem sameT {K : PySem.W.Frag} {H H' : Hp} {a : Addr} {xs : List V} (e : Same H H') (h : SqT K H a xs) : SqT K H' a xs := by
  rcases h with (h | ⟨o, h⟩) | h
  · exact .inl (.inl (e _ _ h))
  · exact .inl (.inr ⟨o, e _ _ h⟩)
  · exact .inr h
theorem Row.same {K : PySem.W.Frag} {H H' : Hp} {a : Addr} {xs : List V} (e : Same H H') (h : Row K H a xs) : Row K H' a xs := h.imp e.seq (sameT e)
theorem same_upd {H : Hp} {p : Addr} {o : HO} (h : H p = none) : Same H (upd H p o) := fun b x e => by
  rw [upd_ne (ne_of_none e h)]
  exact e
section
variable {X : Cx} {pos : Pos}
theorem call_lenA : CallR X (.builtin "len") (fun xs H Q => (∃ p ys, xs = [.ref p] ∧ (SqL X.K H p ys ∨ SqT X.K H p ys) ∧ Q (.int ys.length) H) ∨ (∃ z, xs = [.str z] ∧ z.length ≤ sizeLine ∧ Q (.int z.length) H)) := CallR.or call_len_seq call_len_str
def iSeq (K : PySem.W.Frag) (tl : TE) : TI := fun σ H R => iList K tl σ H R ∨ iTup K tl σ H R
theorem pi_seq {tg l : PySem.Expr} {tl : TE} (hl : PE X l tl) : PI X tg l (iSeq X.K tl) := pi_or (pi_list hl) (pi_tup hl)
def gSeq (K : PySem.W.Frag) (n : Nat) (t : TGs) : TG := fun v σ H Q => gTup K n t v σ H Q ∨ gUnl K n t v σ H Q
theorem pg_seq {es : List PySem.Expr} {k : Nat} {t : TGs} {n : Nat} (hc : X.calm = true) (h : PGs X es t)
    (hn : (assignEach es X.env).length = n := by rfl) (hst : (assignEach es X.env).findIdx? (·.1) = none := by rfl) : PG X (.Tuple es k pos) (gSeq X.K n t) := pg_or (pg_tup hc h hn hst) (pg_unl hc h hn hst)
end
theorem gSeq.row {K : PySem.W.Frag} {n : Nat} {t : TGs} {a : Addr} {xs : List V} {σ : L2.St} {H : Hp} {Q : L2.St → Hp → Prop} (h : Row K H a xs) (hl : xs.length = n) (q : t xs σ H Q) : gSeq K n t (.ref a) σ H Q := by
  rcases h with h | h
  · exact .inr ⟨a, xs, rfl, h, hl, q⟩
  · exact .inl ⟨a, xs, rfl, h, hl, q⟩
/-- for x in (a row that stands in slot i) -/
theorem for_row {K : PySem.W.Frag} {a : Addr} {xs : List V} {g : TG} {tb : TS} {D : Ends} {σ : L2.St} {Hb H : Hp} {j : Nat} (hv : σ[j]? = some (some (.ref a))) (hr : Row K Hb a xs) (hb : Same Hb H) (Pv : Nat → L2.St → Hp → Prop) (h0 : Pv 0 σ H) (hl : ∀ i σ H', i ≤ xs.length → Pv i σ H' → Same Hb H')
    (hs : ∀ i x σ H, xs[i]? = some x → Pv i σ H → g x σ H fun σ2 H2 => tb { D with nx := Pv (i + 1), ct := Pv (i + 1), bk := D.nx } σ2 H2) (hd : ∀ σ H, Pv xs.length σ H → D.nx σ H) :
    tFor (iSeq K (tVar j)) g tb D σ H := by
  rcases hr with hr | hr
  · exact .inl ⟨_, hv, a, rfl, ⟨_, hb.seq hr⟩, for_list (K := K) (a := a) (xs := xs) Pv h0 (fun i σ H' hi p => (hl i σ H' hi p).seq hr) hs hd⟩
  · exact .inr ⟨_, hv, a, rfl, ⟨_, sameT hb hr⟩, for_tup (K := K) (a := a) (xs := xs) Pv h0 (fun i σ H' hi p => sameT (hl i σ H' hi p) hr) hs hd⟩
/-! ### the same rules with the written part named, for use within comprehensions -/
section
variable {X : Cx} {pos : Pos} (K : PySem.W.Frag)
def rLenA (K : PySem.W.Frag) : List V → Hp → VK → Prop := fun xs H Q => (∃ p ys, xs = [.ref p] ∧ (SqL K H p ys ∨ SqT K H p ys) ∧ Q (.int ys.length) H) ∨ (∃ z, xs = [.str z] ∧ z.length ≤ sizeLine ∧ Q (.int z.length) H)
theorem ix_seqK (hK : X.K = K := by rfl) : IxR X (rIx K) := hK ▸ ix_seq
theorem call_lenK (hK : X.K = K := by rfl) : CallR X (.builtin "len") (rLenA K) := hK ▸ call_lenA
theorem pg_tupK {es : List PySem.Expr} {k : Nat} {t : TGs} {n : Nat} (hc : X.calm = true) (h : PGs X es t)
    (hn : (assignEach es X.env).length = n := by rfl) (hst : (assignEach es X.env).findIdx? (·.1) = none := by rfl) (hK : X.K = K := by rfl) : PG X (.Tuple es k pos) (gTup K n t) := hK ▸ pg_tup hc h hn hst
theorem pg_seqK {es : List PySem.Expr} {k : Nat} {t : TGs} {n : Nat} (hc : X.calm = true) (h : PGs X es t)
    (hn : (assignEach es X.env).length = n := by rfl) (hst : (assignEach es X.env).findIdx? (·.1) = none := by rfl) (hK : X.K = K := by rfl) : PG X (.Tuple es k pos) (gSeq K n t) := hK ▸ pg_seq hc h hn hst
end

/-! ### loops and comprehensions, folded -/
def ForGo (J : It) (g : TG) (tb : TS) (D : Ends) (σ : L2.St) (H : Hp) : Prop := ∃ W : Nat → Nat → L2.St → Hp → Prop, (∃ m, W 0 m σ H) ∧ ∀ i m σ H, W i m σ H →
  (J.stop i H ∧ D.nx σ H) ∨ (J.go i H ∧ ∃ N : L2.St → Hp → Prop, (∀ σ' H', N σ' H' → ∃ m', m' < m ∧ W (i + 1) m' σ' H') ∧ ∀ x H', J.yld i H x H' → g x σ H' fun σ2 H2 => tb { D with nx := N, ct := N, bk := D.nx } σ2 H2)
def LcGo (J : It) (g : TG) (tt : TT) (te : TE) (vs : List Nat) (σ : L2.St) (H1 : Hp) (D : Addr) (Q : VK) : Prop := ∃ W : Nat → Nat → Hp → Prop, (∃ m, W 0 m (upd H1 D (.lst []))) ∧ ∀ i m H, W i m H →
  (J.stop i H ∧ Q (.ref D) H) ∨ (J.go i H ∧ ∃ Nx : Hp → Prop, (∀ H', Nx H' → ∃ m', m' < m ∧ W (i + 1) m' H') ∧ ∀ x H', J.yld i H x H' → g x (wipe σ vs) H' fun σ2 H2 => wipe σ2 vs = wipe σ vs ∧ tt σ2 H2 fun b H3 =>
    if b = true then te σ2 H3 fun y H4 => ∃ acc, H4 D = some (.lst acc) ∧ acc.length < sizeLine ∧ Nx (upd H4 D (.lst (acc ++ [y]))) else Nx H3)
section
variable {K : PySem.W.Frag} {ta : TA} {tl : TE} {g : TG} {tb : TS} {D : Ends} {σ : L2.St} {H : Hp} {tt : TT} {te : TE} {vs : List Nat} {Q : VK}
theorem fr_rng1 (h : ta σ H fun us H1 => ∃ j : Int, us = [.int j] ∧ -(2 ^ 62) ≤ j ∧ j < 2 ^ 62 ∧ ForGo (Itr 0 j.toNat) g tb D σ H1) : tFor (iRng1 ta) g tb D σ H := h
theorem fr_rng2 (h : ta σ H fun us H1 => ∃ i j : Int, us = [.int i, .int j] ∧ (-(2 ^ 62) ≤ i ∧ i < 2 ^ 62 ∧ -(2 ^ 62) ≤ j ∧ j < 2 ^ 62) ∧ ForGo (Itr i (j - i).toNat) g tb D σ H1) : tFor (iRng2 ta) g tb D σ H := h
theorem fr_rng2L (h : ta σ H fun us H1 => ∃ i j : Int, us = [.int i, .int j] ∧ ForGo (Itr i (j - i).toNat) g tb D σ H1) : tFor (iRng2L ta) g tb D σ H := h
theorem fr_list (h : tl σ H fun x H1 => ∃ a, x = .ref a ∧ (∃ xs, SqL K H1 a xs) ∧ ForGo (Itl K a) g tb D σ H1) : tFor (iList K tl) g tb D σ H := h
theorem fr_str (h : tl σ H fun v H1 => ∃ x, v = .str x ∧ ForGo (Its x) g tb D σ H1) : tFor (iStr tl) g tb D σ H := h
theorem lc_rng1 (h : ta σ H fun us H1 => ∃ j : Int, us = [.int j] ∧ -(2 ^ 62) ≤ j ∧ j < 2 ^ 62 ∧ ∀ D, H1 D = none → LcGo (Itr 0 j.toNat) g tt te vs σ H1 D Q) : tLc (iRng1 ta) g tt te vs σ H Q := h
theorem lc_rng2 (h : ta σ H fun us H1 => ∃ i j : Int, us = [.int i, .int j] ∧ (-(2 ^ 62) ≤ i ∧ i < 2 ^ 62 ∧ -(2 ^ 62) ≤ j ∧ j < 2 ^ 62) ∧ ∀ D, H1 D = none → LcGo (Itr i (j - i).toNat) g tt te vs σ H1 D Q) : tLc (iRng2 ta) g tt te vs σ H Q := h
theorem lc_rng2L (h : ta σ H fun us H1 => ∃ i j : Int, us = [.int i, .int j] ∧ ∀ D, H1 D = none → LcGo (Itr i (j - i).toNat) g tt te vs σ H1 D Q) : tLc (iRng2L ta) g tt te vs σ H Q := h
theorem lc_lst (h : tl σ H fun x H1 => ∃ a, x = .ref a ∧ (∃ xs, SqL K H1 a xs) ∧ ∀ D, H1 D = none → LcGo (Itl K a) g tt te vs σ H1 D Q) : tLc (iList K tl) g tt te vs σ H Q := h
theorem lc_str (h : tl σ H fun v H1 => ∃ x, v = .str x ∧ ∀ D, H1 D = none → LcGo (Its x) g tt te vs σ H1 D Q) : tLc (iStr tl) g tt te vs σ H Q := h

theorem ForGo.range {lo : Int} {n : Nat} (Pv : Nat → L2.St → Hp → Prop) (h0 : Pv 0 σ H)
    (hs : ∀ i σ H, i < n → Pv i σ H → g (.int (lo + i)) σ H fun σ2 H2 => tb { D with nx := Pv (i + 1), ct := Pv (i + 1), bk := D.nx } σ2 H2) (hd : ∀ σ H, Pv n σ H → D.nx σ H) : ForGo (Itr lo n) g tb D σ H := for_range Pv h0 hs hd
theorem ForGo.list {a : Addr} {xs : List V} (Pv : Nat → L2.St → Hp → Prop) (h0 : Pv 0 σ H) (hl : ∀ i σ H, i ≤ xs.length → Pv i σ H → SqL K H a xs)
    (hs : ∀ i x σ H, xs[i]? = some x → Pv i σ H → g x σ H fun σ2 H2 => tb { D with nx := Pv (i + 1), ct := Pv (i + 1), bk := D.nx } σ2 H2) (hd : ∀ σ H, Pv xs.length σ H → D.nx σ H) : ForGo (Itl K a) g tb D σ H := for_list Pv h0 hl hs hd
theorem LcGo.range {lo : Int} {n : Nat} {D : Addr} (Pv : Nat → Hp → Prop) (h0 : Pv 0 (upd H D (.lst [])))
    (hs : ∀ i H, i < n → Pv i H → g (.int (lo + i)) (wipe σ vs) H fun σ2 H2 => wipe σ2 vs = wipe σ vs ∧ tt σ2 H2 fun b H3 =>
      if b = true then te σ2 H3 fun y H4 => ∃ acc, H4 D = some (.lst acc) ∧ acc.length < sizeLine ∧ Pv (i + 1) (upd H4 D (.lst (acc ++ [y]))) else Pv (i + 1) H3) (hd : ∀ H, Pv n H → Q (.ref D) H) : LcGo (Itr lo n) g tt te vs σ H D Q := L2.lc_range (lo := lo) (n := n) Pv h0 hs hd
theorem LcGo.list {a D : Addr} {xs : List V} (Pv : Nat → Hp → Prop) (h0 : Pv 0 (upd H D (.lst []))) (hl : ∀ i H, i ≤ xs.length → Pv i H → SqL K H a xs)
    (hs : ∀ i x H, xs[i]? = some x → Pv i H → g x (wipe σ vs) H fun σ2 H2 => wipe σ2 vs = wipe σ vs ∧ tt σ2 H2 fun b H3 =>
      if b = true then te σ2 H3 fun y H4 => ∃ acc, H4 D = some (.lst acc) ∧ acc.length < sizeLine ∧ Pv (i + 1) (upd H4 D (.lst (acc ++ [y]))) else Pv (i + 1) H3) (hd : ∀ H, Pv xs.length H → Q (.ref D) H) : LcGo (Itl K a) g tt te vs σ H D Q := L2.lc_list Pv h0 hl hs hd
theorem LcGo.str {z : Str} {D : Addr} (Pv : Nat → Hp → Prop) (h0 : Pv 0 (upd H D (.lst [])))
    (hs : ∀ i c H, z.cps[i]? = some c → Pv i H → g (.str ⟨#[c]⟩) (wipe σ vs) H fun σ2 H2 => wipe σ2 vs = wipe σ vs ∧ tt σ2 H2 fun b H3 =>
      if b = true then te σ2 H3 fun y H4 => ∃ acc, H4 D = some (.lst acc) ∧ acc.length < sizeLine ∧ Pv (i + 1) (upd H4 D (.lst (acc ++ [y]))) else Pv (i + 1) H3) (hd : ∀ H, Pv z.cps.size H → Q (.ref D) H) : LcGo (Its z) g tt te vs σ H D Q := by
  refine ⟨fun i m H => m = z.cps.size - i ∧ i ≤ z.cps.size ∧ Pv i H, ⟨z.cps.size, by simp, Nat.zero_le _, h0⟩, ?_⟩
  rintro i m H ⟨rfl, hi, p⟩
  by_cases hlt : i < z.cps.size
  · refine .inr ⟨hlt, Pv (i + 1), fun H' p' => ⟨z.cps.size - (i + 1), by omega, rfl, hlt, p'⟩, fun x H' y => ?_⟩
    obtain ⟨e, c, hc, rfl⟩ := y
    subst e
    exact hs i c _ hc p
  · have e : i = z.cps.size := by omega
    subst e
    exact .inl ⟨Nat.le_refl _, hd H p⟩
end
end BK

namespace BK
open PySem PySem.Spec PyProof.Rows L2

/-! ## del xs[a:] -/
theorem keep_from {α : Type} (a : Nat) : ∀ (xs : List α) (j n : Nat), xs.length + j ≤ n → (xs.zipIdx j).filterMap (fun (p : α × Nat) => if (decide (a ≤ p.2) && decide (p.2 < n)) = true then none else some p.1) = xs.take (a - j)
  | [], j, n, _ => by simp
  | x :: r, j, n, h => by
    rw [List.zipIdx_cons, List.filterMap_cons]
    have hn : j < n := by simp at h; omega
    have ih := keep_from a r (j + 1) n (by simp at h; omega)
    by_cases hj : a ≤ j
    · simp only [hj, hn, decide_true, Bool.and_self, if_true]
      rw [ih, show a - j = 0 by omega, show a - (j + 1) = 0 by omega]
      simp
    · simp only [hj, decide_false, Bool.false_and, Bool.false_eq_true, if_false]
      rw [ih, show a - j = (a - (j + 1)) + 1 by omega, List.take_succ_cons]
theorem pick_take {sel : Nat → Bool} {a n : Nat} (hs : ∀ k, sel k = (decide (a ≤ k) && decide (k < n))) (its : List Value) (hn : its.length = n) :
    (its.toArray.toList.zipIdx.filterMap fun (x : Value × Nat) => if sel x.2 = true then none else some x.1).toArray = (its.take a).toArray := by
  have e : (fun (x : Value × Nat) => if sel x.2 = true then none else some x.1) = fun (x : Value × Nat) => if (decide (a ≤ x.2) && decide (x.2 < n)) = true then none else some x.1 := funext fun x => by rw [hs]
  rw [e, show its.toArray.toList = its by simp, keep_from a its 0 n (by omega), Nat.sub_zero]
section
variable {prog : Program} {w : World} {A : Around} {E : Value → Shared → Prop} {s : Shared}
set_option maxRecDepth 100000 in
/-- a list's slice without end and step, deleted -/
theorem delItem_from {l sl : Addr} {its : List Value} {n : Nat} {vl : Value} {lo : Option Int} {Q : Unit → Shared → Prop}
    (e : s.heap.get? l = some { cls := .type "list", data := .seq its.toArray n })
    (hs : s.heap.IsSliceOf sl vl .none .none) (pl : IsPart vl lo) (hsz : its.length ≤ sizeLine)
    (h : ∀ f : Array Value → Array Value, f its.toArray = (its.take (HT.sIx its.length 0 lo)).toArray → Q () { s with heap := s.heap.update l (Obj.mapSeq f) }) :
    wpAny (model prog w) A (delItem (.ref l) (.ref sl)) Q E s := by
  have hl : s.heap.IsList l its.toArray := PySem.IsL.isList e
  obtain ⟨os, hos, hcs, hds⟩ := id hs
  have hTs : s.TypeIs (.ref sl) "slice" := ⟨os, hos, hcs⟩
  have hstep : ¬ ((rawPart none == rawInt 0) = true) := Bool.false_ne_true
  refine wpAny_delItem_slot hl.typeIs (by decide) PySem.F.slot_list_delitem ?_
  refine wpAny_call_entry PySem.F.slot_list_delitem hl.typeIs PySem.F.entry_list_delitem ?_ (PySem.F.args_list_delitem_2 _ _)
  refine wpAny_bind (m := slotArgs "__delitem__" 1 _) (wpAny_pure ?_)
  refine wpAny_bind (m := Builtin.List.listSubscript? (.ref sl)) ?_
  unfold Builtin.List.listSubscript?
  refine wpAny_bind (wpAny_specialOf hTs slice_no_index ?_)
  simp only [Option.isNone_none, if_true]
  refine wpAny_pure ?_
  show wpAny _ _ (typeOf (.ref sl) >>= _) _ _ s
  refine wpAny_bind (wpAny_typeOf hTs ?_)
  first
    | rw [if_neg (by decide)]
    | refine PySem.W.KFB.if_not (by decide) ?_
  rw [listSliceParts_eq]
  refine wpAny_bind (wpAny_bind (wpAny_field hos hds (x := .none) rfl (wpAny_bind (wpAny_listPart .none ?_))))
  rw [if_neg hstep]
  refine wpAny_bind (wpAny_field hos hds (x := vl) rfl (wpAny_bind (wpAny_listPart pl ?_)))
  refine wpAny_bind (wpAny_field hos hds (x := .none) rfl (wpAny_bind (wpAny_listPart .none (wpAny_pure ?_))))
  refine wpAny_bind (m := Builtin.List.listItems (.ref l)) ?_
  unfold Builtin.List.listItems
  refine wpAny_bind (wpAny_seqItems e rfl (wpAny_pure ?_))
  have hb : sliceBounds lo none none its.toArray.size = (((HT.sIx its.length 0 lo : Nat) : Int), (((its.length : Nat) : Int), (1 : Int))) := by
    obtain ⟨h1, h2, h3⟩ := slice_bounds lo none its.toArray.size
    have e1 : its.toArray.size = its.length := List.size_toArray
    rw [e1] at h1 h2 h3 ⊢
    have h2' : (sliceBounds lo none none its.length).2.1 = ((its.length : Nat) : Int) := by rw [h2]; rfl
    exact Prod.ext h1 (Prod.ext h2' h3)
  refine wpAny_bind (wpAny_of_eq ((sliceIndices_raw lo none none its.toArray.size (by simp)).trans (congrArg (pure : Int × Int × Int → Sem (Int × Int × Int)) hb)) ?_)
  refine wpAny_bind (m := rule "list.__delitem__.slice") (wpAny_rule ?_)
  have pk := fun (sel : Nat → Bool) hs => pick_take (sel := sel) (a := HT.sIx its.length 0 lo) (n := its.length) hs its rfl
  refine wpAny_bind (m := updateSeq l _) (wpAny_updateSeq (hz := by rw [List.size_toArray]; exact hsz) (_hz' := ?_) e rfl ?_)
  rotate_left
  · refine Nat.le_trans (Nat.le_of_eq (congrArg Array.size (pk _ fun k => ?_))) ?_
    · show (decide (((HT.sIx its.length 0 lo : Nat) : Int) ≤ (k : Int)) && decide ((k : Int) < ((its.length : Nat) : Int)) && (((k : Int) - ((HT.sIx its.length 0 lo : Nat) : Int)) % 1 == 0)) = _
      rw [Int.emod_one]
      simp
    · rw [List.size_toArray, List.length_take]
      omega
  refine wpAny_bind (wpAny_letGo ?_)
  refine wpAny_pure ⟨_, rfl, h _ (pk _ fun k => ?_)⟩
  show (decide (((HT.sIx its.length 0 lo : Nat) : Int) ≤ (k : Int)) && decide ((k : Int) < ((its.length : Nat) : Int)) && (((k : Int) - ((HT.sIx its.length 0 lo : Nat) : Int)) % 1 == 0)) = _
  rw [Int.emod_one]
  simp
end
section
variable {X : Cx}
theorem del_slice {pins : List (Addr × Obj)} {s : Shared} {σ : L2.St} {H : Hp} {l sl : Addr} {xs : List V} {vl : Value} {lo : Option Int} {Q : Unit → Shared → Prop} (I : L2.Inv X pins σ H s)
    (hH : H l = some (.lst xs)) (hs : s.heap.IsSliceOf sl vl .none .none) (pl : IsPart vl lo)
    (h : ∀ s', L2.Inv X pins σ (upd H l (.lst (xs.take (HT.sIx xs.length 0 lo)))) s' → Q () s') :
    wpAny (model X.prog X.w) X.A (delItem (.ref l) (.ref sl)) Q X.xe s := by
  obtain ⟨z, its, n, r, hl, e⟩ := I.lstM hH
  refine delItem_from e hs pl (by omega) fun f hf => h _ ?_
  refine I.lset (its' := its.take (HT.sIx its.length 0 lo)) (t' := s.toks) hH e hf (by rw [← hl]; exact r.take _) ?_
  rw [List.length_take]
  omega
/-- del xs[a:] of a list -/
def tDelS (to : TE) (tl : TO) : TS := fun D σ H => to σ H fun x H1 => tl σ H1 fun lo H2 => ∃ (l : Addr) (xs : List V), x = .ref l ∧ H2 l = some (.lst xs) ∧ D.nx σ (upd H2 l (.lst (xs.take (HT.sIx xs.length 0 lo))))
theorem ps_delS {o : Expr} {lo : Option Expr} {to : TE} {tl : TO} {p2 tpos pos : Pos} (ho : PE X o to) (hl : PO X lo tl) : PS X (.Delete [.Subscript o (.Slice lo none none p2) tpos] pos) (tDelS to tl) := by
  refine ⟨fun pins s σ H D I h => ?_⟩
  refine wpAny_Delete (wpAny_deleteEach_cons (wpAny_delete_Subscript (thn (ho.run pins s σ H _ I h) fun u s1 ⟨x, H1, I1, rx, q1⟩ => ?_)))
  refine wpAny_Slice (thn (hl.run pins s1 σ H1 _ I1 q1) fun vl s2 ⟨l, H2, I2, pl, q2⟩ => ?_)
  rw [evalPart_none]
  refine wpAny_pure ?_
  refine wpAny_pure ?_
  obtain ⟨b, xs, ex, hH, q2⟩ := q2
  subst ex
  cases (show u = Value.ref b from rx)
  have I4 : L2.Inv X pins σ H2 { s2 with heap := s2.heap.push { cls := .type "slice", data := .fields #[vl, .none, .none] } } := I2.kept (t' := s2.toks) fun b ob q => Heap.get?_push_of_some _ q
  exact del_slice I4 hH (Heap.IsSliceOf.new ..) pl fun s3 I3 => wpAny_deleteEach_nil ⟨σ, _, I3, q2⟩
end
end BK

namespace BK
open PySem PySem.Spec PyProof.Rows L2 Builtin Builtin.Str

/-! ### texts as lists of codes -/
def tx (w : List Nat) : Str := ⟨w.toArray⟩
theorem tx_cps (w : List Nat) : (tx w).cps.toList = w := by unfold tx; simp
theorem tx_len (w : List Nat) : (tx w).length = w.length := by unfold tx; simp [Str.length]
theorem tx_inj {a b : List Nat} (h : tx a = tx b) : a = b := by
  have := congrArg (fun z : Str => z.cps.toList) h
  simpa [tx_cps] using this
theorem tx_of (z : Str) : tx z.cps.toList = z := Str.ext' (by unfold tx; simp)
theorem tx_ext {z : Str} {w : List Nat} (h : z.cps.toList = w) : z = tx w := by rw [← h, tx_of]
theorem tx_app (a b : List Nat) : tx a ++ tx b = tx (a ++ b) := tx_ext (by rw [Str.cps_append, Array.toList_append, tx_cps, tx_cps])
theorem tx_eq (a b : List Nat) : (V.str (tx a) = V.str (tx b)) ↔ a = b := ⟨fun h => tx_inj (V.str.inj h), fun h => by rw [h]⟩
theorem tx_one (c : Nat) : tx [c] = ⟨#[c]⟩ := rfl
theorem tx_nil : tx [] = "" := rfl

theorem cut_nn (w : List Nat) (i j : Nat) : cutS (tx w) (some (i : Int)) (some (j : Int)) = tx ((w.drop i).take (j - i)) := by
  refine tx_ext ?_
  unfold cutS
  rw [HT.sIx_nat, HT.sIx_nat, tx_cps, tx_len, List.toList_toArray]
  by_cases hi : i ≤ w.length
  · rw [Nat.min_eq_left hi]
    by_cases hj : j ≤ w.length
    · rw [Nat.min_eq_left hj]
    · rw [Nat.min_eq_right (by omega), List.take_of_length_le (by rw [List.length_drop]; omega), List.take_of_length_le (by rw [List.length_drop]; omega)]
  · rw [Nat.min_eq_right (show w.length ≤ i by omega), List.drop_length, List.drop_eq_nil_of_le (by omega), List.take_nil, List.take_nil]
theorem cut_n_ (w : List Nat) (i : Nat) : cutS (tx w) (some (i : Int)) none = tx (w.drop i) := by
  refine tx_ext ?_
  unfold cutS
  rw [HT.sIx_nat, HT.sIx_none, tx_cps, tx_len, List.toList_toArray]
  by_cases hi : i ≤ w.length
  · rw [Nat.min_eq_left hi, List.take_of_length_le (by rw [List.length_drop]; omega)]
  · rw [Nat.min_eq_right (by omega), List.drop_length, List.drop_eq_nil_of_le (by omega), List.take_nil]
theorem cut__n (w : List Nat) (j : Nat) : cutS (tx w) none (some (j : Int)) = tx (w.take j) := by
  refine tx_ext ?_
  unfold cutS
  rw [HT.sIx_nat, HT.sIx_none, tx_cps, tx_len, List.toList_toArray, List.drop_zero, Nat.sub_zero]
  by_cases hj : j ≤ w.length
  · rw [Nat.min_eq_left hj]
  · rw [Nat.min_eq_right (by omega), List.take_of_length_le (Nat.le_refl _), List.take_of_length_le (by omega)]

theorem foldl_app (l : List (List Nat)) : ∀ acc : Array Nat, ((l.map List.toArray).foldl (· ++ ·) acc).toList = acc.toList ++ l.flatten := by
  induction l with
  | nil => intro acc; simp
  | cons a l ih =>
    intro acc
    rw [List.map_cons, List.foldl_cons, ih, Array.toList_append, List.toList_toArray, List.flatten_cons, List.append_assoc]
theorem mul_tx (w : List Nat) (n : Nat) : Txt.mul (tx w) (n : Int) = tx (List.replicate n w).flatten := by
  refine tx_ext ?_
  unfold Txt.mul
  split
  · have : n = 0 := by omega
    subst this
    rfl
  · split
    · rename_i h1 h2
      rw [Bool.or_eq_true] at h2
      rcases h2 with h2 | h2
      · have : n = 1 := by have := eq_of_beq h2; omega
        subst this
        rw [tx_cps]
        simp
      · have : w = [] := by
          have := eq_of_beq h2
          rw [tx_len] at this
          exact List.eq_nil_of_length_eq_zero this
        subst this
        rw [tx_cps]
        simp
    · rw [Int.toNat_natCast]
      have e : List.replicate n (tx w).cps = (List.replicate n w).map List.toArray := by rw [List.map_replicate]; rfl
      show (List.foldl (· ++ ·) #[] (List.replicate n (tx w).cps)).toList = _
      rw [e, foldl_app]
      simp
theorem mul_ok {w : List Nat} {n : Nat} (L N : Nat) (h : w.length ≤ L) (hn : n ≤ N) (hN : N ≤ 16777216) (hL : L * N ≤ 16777216) : MulOk (tx w) (n : Int) :=
  mulOk_of L N (by rw [tx_len]; exact h) (by omega) (by omega) hN hL

theorem join_go : ∀ (ws : List (List Nat)) (acc : Array Nat), ((ws.map tx).foldl (fun acc p => acc ++ (tx []).cps ++ p.cps) acc).toList = acc.toList ++ ws.flatten
  | [], acc => by simp
  | a :: l, acc => by
    rw [List.map_cons, List.foldl_cons, join_go l, Array.toList_append, Array.toList_append, tx_cps, List.flatten_cons, tx_cps, List.append_nil, List.append_assoc]
theorem join_tx (ws : List (List Nat)) : Txt.join (tx []) (ws.map tx) = tx ws.flatten := by
  refine tx_ext ?_
  show (glued (tx []) (ws.map tx)).cps.toList = _
  unfold glued
  cases ws with
  | nil => rfl
  | cons a l =>
    show (((l.map tx)).foldl (fun acc p => acc ++ (tx []).cps ++ p.cps) (tx a).cps).toList = _
    rw [join_go, tx_cps, List.flatten_cons]

/-! ### how many of one sign -/
theorem sub_one (w : List Nat) (c i : Nat) : (i + (tx [c]).length ≤ (tx w).length ∧ subAt (tx w) (tx [c]) i = true) ↔ w[i]? = some c := by
  have h := StrLaws.subAt_one (tx w) c i
  rw [tx_cps] at h
  exact h
theorem occ_run (w : List Nat) (c : Nat) : ∀ (n i : Nat) (st : Array Nat × Nat), st.2 ≤ i → st.1.size ≤ i → i ≤ w.length →
    (forIn (List.range' i n) st (StrLaws.occBody (tx w) (tx [c]) (tx w).length ((tx w).length + 1))).run.1.size = st.1.size + ((w.drop i).take n).count c
  | 0, i, st, h1, h2, h3 => by simp
  | n + 1, i, st, h1, h2, h3 => by
    rw [List.range'_succ, List.forIn_cons]
    unfold StrLaws.occBody
    have hs := sub_one w c i
    by_cases hc : w[i]? = some c
    · have hq := hs.mpr hc
      have hlt : i < w.length := (List.getElem?_eq_some_iff.mp hc).1
      rw [if_pos ⟨⟨⟨by rw [tx_len]; omega, h1⟩, hq.1⟩, hq.2⟩]
      have ih := occ_run w c n (i + 1) (st.1.push i, i + (tx [c]).length) (by rw [tx_len]; exact Nat.le_refl _) (by rw [Array.size_push]; omega) hlt
      refine ih.trans ?_
      rw [Array.size_push, List.drop_eq_getElem_cons hlt, List.take_succ_cons, List.count_cons]
      have e : w[i] = c := (List.getElem?_eq_some_iff.mp hc).2
      rw [e, beq_self_eq_true, if_pos rfl]
      omega
    · rw [if_neg (fun z => hc (hs.mp ⟨z.1.2, z.2⟩))]
      by_cases hlt : i < w.length
      · have ih := occ_run w c n (i + 1) (st.1, st.2) (by show st.2 ≤ i + 1; omega) (by show st.1.size ≤ i + 1; omega) hlt
        refine ih.trans ?_
        rw [List.drop_eq_getElem_cons hlt, List.take_succ_cons, List.count_cons]
        have e : w[i] ≠ c := fun z => hc (by rw [List.getElem?_eq_getElem hlt, z])
        rw [beq_eq_false_iff_ne.mpr e, if_neg Bool.false_ne_true, Nat.add_zero]
        all_goals rfl
      · have e0 : ∀ (m j : Nat) (st : Array Nat × Nat), w.length ≤ j → (forIn (List.range' j m) st (StrLaws.occBody (tx w) (tx [c]) (tx w).length ((tx w).length + 1))).run.1.size = st.1.size := by
          intro m
          induction m with
          | zero => intro j st _; rfl
          | succ m ih =>
            intro j st hj
            rw [List.range'_succ, List.forIn_cons]
            unfold StrLaws.occBody
            rw [if_neg (fun z => by have := (sub_one w c j).mp ⟨z.1.2, z.2⟩; rw [List.getElem?_eq_none hj] at this; cases this)]
            exact ih (j + 1) (st.1, st.2) (by omega)
        refine (e0 n (i + 1) (st.1, st.2) (by omega)).trans ?_
        rw [List.drop_eq_nil_of_le (by omega), List.take_nil, List.count_nil, Nat.add_zero]
theorem count_tx (w : List Nat) (c : Nat) : Txt.count (tx w) (tx [c]) = (w.count c : Nat) := by
  unfold Txt.count
  rw [StrLaws.occ_eq, Array.length_toList]
  have h := occ_run w c ((tx w).length + 1 - 0) 0 (#[], 0) (Nat.le_refl _) (Nat.le_refl _) (Nat.zero_le _)
  rw [h, List.drop_zero, List.take_of_length_le (by rw [tx_len]; omega)]
  simp

/-! ### strip of signs -/
theorem takeWhile_all {p : Nat → Bool} : ∀ {l : List Nat}, l.all p = true → l.takeWhile p = l
  | [], _ => rfl
  | a :: l, h => by
    rw [List.all_cons, Bool.and_eq_true] at h
    rw [List.takeWhile_cons, if_pos h.1, takeWhile_all h.2]
theorem takeWhile_len {p : Nat → Bool} : ∀ (l : List Nat), l.all p = false → ∃ x, l[(l.takeWhile p).length]? = some x ∧ p x = false
  | [], h => by simp at h
  | a :: l, h => by
    rw [List.takeWhile_cons]
    by_cases ha : p a = true
    · rw [List.all_cons, ha, Bool.true_and] at h
      rw [if_pos ha]
      obtain ⟨x, h1, h2⟩ := takeWhile_len l h
      exact ⟨x, by rw [List.length_cons, List.getElem?_cons_succ]; exact h1, h2⟩
    · rw [if_neg ha]
      exact ⟨a, rfl, Bool.eq_false_iff.mpr ha⟩
theorem strip_iff (w y : List Nat) : (Txt.stripChars (tx w) (tx y) = tx []) ↔ w.all (y.contains ·) = true := by
  have hp : ∀ c, (tx y).cps.contains c = y.contains c := fun c => by unfold tx; simp
  have hp' : (tx y).cps.contains = fun c => y.contains c := funext hp
  unfold Txt.stripChars Txt.stripBy
  rw [hp']
  have hlo : stripLo (fun c => y.contains c) true (tx w) = (w.takeWhile fun c => y.contains c).length := by
    unfold stripLo
    rw [if_pos rfl, tx_cps]
  cases hall : w.all (y.contains ·) with
  | true =>
    have e := takeWhile_all (p := fun c => y.contains c) hall
    rw [e] at hlo
    refine ⟨fun _ => rfl, fun _ => ?_⟩
    by_cases hs : stripSame (fun c => y.contains c) true true (tx w) = true
    · rw [if_pos hs]
      unfold stripSame at hs
      rw [Bool.and_eq_true] at hs
      rw [hlo] at hs
      have : w.length = 0 := eq_of_beq hs.1
      rw [List.eq_nil_of_length_eq_zero this]
    · rw [if_neg hs]
      refine tx_ext ?_
      unfold stripped
      rw [hlo, StrLaws.strSub_toList, tx_cps, List.drop_length, List.take_nil]
  | false =>
    refine ⟨fun h => ?_, fun h => by cases h⟩
    exfalso
    obtain ⟨x, hx, hpx⟩ := takeWhile_len (p := fun c => y.contains c) w hall
    by_cases hs : stripSame (fun c => y.contains c) true true (tx w) = true
    · rw [if_pos hs] at h
      have : w = [] := tx_inj h
      subst this
      simp at hall
    · rw [if_neg hs] at h
      have h2 := congrArg (fun z : Str => z.cps.toList) h
      unfold stripped at h2
      simp only [StrLaws.strSub_toList, tx_cps, hlo] at h2
      have hlt : (w.takeWhile fun c => y.contains c).length < w.length := (List.getElem?_eq_some_iff.mp hx).1
      -- the right end lies behind x
      have hhi : (w.takeWhile fun c => y.contains c).length < stripHi (fun c => y.contains c) true (tx w) (w.takeWhile fun c => y.contains c).length := by
        unfold stripHi
        rw [if_pos rfl, tx_cps, tx_len]
        have hne : ((w.drop (w.takeWhile fun c => y.contains c).length).reverse).all (fun c => y.contains c) = false := by
          rw [List.all_reverse, List.drop_eq_getElem_cons hlt, List.all_cons]
          have e : w[(w.takeWhile fun c => y.contains c).length] = x := (List.getElem?_eq_some_iff.mp hx).2
          rw [e, hpx, Bool.false_and]
        obtain ⟨z, hz, _⟩ := takeWhile_len (p := fun c => y.contains c) _ hne
        have hl2 := (List.getElem?_eq_some_iff.mp hz).1
        rw [List.length_reverse, List.length_drop] at hl2
        omega
      have h3 := congrArg List.length h2
      rw [List.length_take, List.length_drop] at h3
      have hz : ([] : List Nat).length = 0 := rfl
      have hk : 0 < stripHi (fun c => y.contains c) true (tx w) (w.takeWhile fun c => y.contains c).length - (w.takeWhile fun c => y.contains c).length := by omega
      have h4 : (tx ([] : List Nat)).cps.toList.length = 0 := rfl
      have h5 : min (stripHi (fun c => y.contains c) true (tx w) (w.takeWhile fun c => y.contains c).length - (w.takeWhile fun c => y.contains c).length) (w.length - (w.takeWhile fun c => y.contains c).length) = 0 := h3
      omega
end BK

namespace BK
open PySem PySem.Spec PyProof.Rows L2

/-! ## list(text) -/
section
variable {X : Cx}
theorem signs_vals {x : Str} {acc : Array Value} (h : ItemsOf (SignAt x) acc x.cps.size) : Vals (x.cps.toList.map fun c => V.str (tx [c])) acc.toList := by
  refine vals_of_at ?_ fun j y u h1 h2 => ?_
  · rw [List.length_map, Array.length_toList, Array.length_toList, h.1]
  · obtain ⟨c, t, e1, e2⟩ := h.2 j u (by rw [← Array.getElem?_toList]; exact h2)
    rw [List.getElem?_map, Array.getElem?_toList, e1] at h1
    cases h1
    exact ⟨t, e2⟩
theorem call_listS (hc : X.calm = true) : CallR X (.type "list") (fun xs H Q => ∃ x : Str, xs = [.str x] ∧ x.cps.size ≤ sizeLine ∧ ∀ p, H p = none → Q (.ref p) (upd H p (.lst (x.cps.toList.map fun c => V.str (tx [c]))))) := by
  intro pins s σ H xs us Q I r h
  obtain ⟨x, e, hz, q⟩ := h
  subst e
  obtain ⟨u, eu, rx⟩ := vals1 r
  subst eu
  obtain ⟨t, rfl⟩ := rx
  refine call_list_str (I.ok.hd hc) x t (fun h' tk acc c' hk hD hacc => ?_) hz
  refine ⟨.ref s.heap.objs.size, upd H s.heap.objs.size (.lst (x.cps.toList.map fun c => V.str (tx [c]))), I.laid (t' := tk) hk (Nat.le_refl _)
    (show ObjOk X.prog X.w _ _ _ (.lst (x.cps.toList.map fun c => V.str (tx [c]))) from ⟨by rw [List.length_map, Array.length_toList]; exact hz, acc.toList, c', signs_vals hacc, by rw [Array.toArray_toList]; exact hD⟩), rfl, q _ (I.hok.fresh (Nat.le_refl _))⟩
end

/-! ## a dict of the module: texts by texts -/
def dtx (e : DictEntry) : Option (Str × Str) := match e.key, e.val with
  | .str x _, .str y _ => some (x, y)
  | _, _ => none
structure SDict (K : PySem.W.Frag) (w : World) (mg : Str → Option Value) (x : Str) (ps : List (Str × Str)) : Type where
  d : Addr
  es : Array DictEntry
  n : Nat
  g : mg x = some (.ref d)
  k : KDict K w d es n
  e : es.toList.map dtx = ps.map some
theorem dtx_find (z : Str) : ∀ (es : List DictEntry) (ps : List (Str × Str)), es.map dtx = ps.map some →
    (ps.lookup z = none → es.find? (·.key.isStr z) = none ∧ es.any (·.refKey) = false) ∧ (∀ y, ps.lookup z = some y → ∃ e t, es.find? (·.key.isStr z) = some e ∧ e.val = .str y t)
  | [], [], _ => ⟨fun _ => ⟨rfl, rfl⟩, fun y h => by cases h⟩
  | [], _ :: _, h => by cases h
  | _ :: _, [], h => by cases h
  | e :: es, p :: ps, h => by
    obtain ⟨h1, h2⟩ := List.cons.inj h
    have ih := dtx_find z es ps h2
    obtain ⟨a, b⟩ := p
    unfold dtx at h1
    split at h1
    · rename_i x t y t2 k1 k2
      have e3 := Option.some.inj h1
      obtain ⟨rfl, rfl⟩ := Prod.mk.inj e3
      have hk : e.key.isStr z = (x == z) := by rw [k1]; rfl
      have hr : e.refKey = false := by unfold DictEntry.refKey; rw [k1]
      by_cases hz : z = x
      · subst hz
        refine ⟨fun hh => ?_, fun y' hy => ?_⟩
        · rw [List.lookup_cons_self] at hh
          cases hh
        · rw [List.lookup_cons_self] at hy
          cases hy
          refine ⟨e, t2, ?_, k2⟩
          rw [List.find?_cons, hk]
          simp
      · have hb : (z == x) = false := beq_eq_false_iff_ne.mpr hz
        have hb2 : (x == z) = false := beq_eq_false_iff_ne.mpr fun q => hz q.symm
        refine ⟨fun hh => ?_, fun y' hy => ?_⟩
        · rw [List.lookup_cons, hb] at hh
          obtain ⟨i1, i2⟩ := ih.1 hh
          rw [List.find?_cons, hk, hb2, List.any_cons, hr]
          exact ⟨i1, i2⟩
        · rw [List.lookup_cons, hb] at hy
          obtain ⟨e', t', i1, i2⟩ := ih.2 y' hy
          refine ⟨e', t', ?_, i2⟩
          rw [List.find?_cons, hk, hb2]
          exact i1
    · cases h1
theorem SDict.none {K : PySem.W.Frag} {w : World} {mg : Str → Option Value} {x : Str} {ps : List (Str × Str)} (D : SDict K w mg x ps) {z : Str} (h : ps.lookup z = .none) : PySem.W.nsIn K D.d z = some .none := by
  obtain ⟨h1, h2⟩ := (dtx_find z _ _ D.e).1 h
  unfold PySem.W.nsIn
  rw [D.k.at_]
  dsimp only
  rw [h1]
  dsimp only
  rw [h2]
  rfl
theorem SDict.some {K : PySem.W.Frag} {w : World} {mg : Str → Option Value} {x : Str} {ps : List (Str × Str)} (D : SDict K w mg x ps) {z y : Str} (h : ps.lookup z = .some y) : ∃ t, PySem.W.nsIn K D.d z = some (.some (.str y t)) := by
  obtain ⟨e, t, h1, h2⟩ := (dtx_find z _ _ D.e).2 y h
  refine ⟨t, ?_⟩
  unfold PySem.W.nsIn
  rw [D.k.at_]
  dsimp only
  rw [h1]
  dsimp only
  rw [h2]
section
variable {X : Cx} {x : Str} {ps : List (Str × Str)}
theorem pe_sd {pos : Pos} (D : SDict X.K X.w X.mg x ps) (hg : Gl X x) (hd : (x == ("__debug__" : Str)) = false) : PE X (.Name x pos) (tC (.ref D.d)) := pe_glob hg D.g rfl hd
theorem op_in_sd (D : SDict X.K X.w X.mg x ps) : OpR X (compareOp .In) (fun a b H Q => ∃ z : Str, a = .str z ∧ b = .ref D.d ∧ Q (.bl (ps.lookup z).isSome) H) := by
  intro pins s σ H a b v u Q I rx ry h
  obtain ⟨z, e1, e2, q⟩ := h
  cases hl : ps.lookup z with
  | none =>
    rw [hl] at q
    exact op_in_kd D.k pins s σ H a b v u Q I rx ry ⟨z, .none, e1, e2, D.none hl, q⟩
  | some y =>
    rw [hl] at q
    obtain ⟨t, e⟩ := D.some hl
    exact op_in_kd D.k pins s σ H a b v u Q I rx ry ⟨z, _, e1, e2, e, q⟩
def oV : Option Str → V
  | none => .non
  | some y => .str y
def tSGet (d : Addr) (ps : List (Str × Str)) (to te : TE) : TE := fun σ H Q => to σ H fun x H1 => x = .ref d ∧ te σ H1 fun y H2 => ∃ z : Str, y = .str z ∧ Q (oV (ps.lookup z)) H2
theorem pe_sget {o e : Expr} {to te : TE} {apos cpos : Pos} (D : SDict X.K X.w X.mg x ps) (ho : PE X o to) (he : PE X e te) (m : M1 X o "get" apos e cpos) : PE X (.Call (.Attribute o "get" apos) [e] [] cpos) (tSGet D.d ps to te) := by
  refine ⟨fun pins s σ H Q I h => ?_⟩
  refine wpAny_Call_method m.base m.few m.line PySem.F.plainAttrs_dict PySem.F.slot_dict_get PySem.F.type_dict_get (thn (ho.run pins s σ H _ I h) fun u s1 ⟨x, H1, I1, rx, ex, q1⟩ => ?_)
  subst ex
  obtain rfl : u = Value.ref D.d := rx
  have hm0 := PySem.W.mapOf_K (prog := X.prog) (w := X.w) I1.kIn D.k.at_ D.k.lit
  refine ⟨hm0.typeIs, fun b e => ?_, ?_⟩
  · cases e
    exact ⟨_, I1.kIn _ _ D.k.at_, rfl⟩
  rw [m.trees]
  refine wpAny_dict_get1 (knd := PySem.strKind X.prog X.w) D.k.low (thn (he.run pins s1 σ H1 _ I1 q1) fun iv s2 ⟨y, H2, I2, ry, z, ey, q2⟩ => ?_)
  subst ey
  obtain ⟨t, rfl⟩ := ry
  refine ⟨z, _, PySem.strKind_is X.prog X.w z t, PySem.W.mapOf_K (prog := X.prog) (w := X.w) I2.kIn D.k.at_ D.k.lit, ?_⟩
  cases hl : ps.lookup z with
  | none =>
    rw [PySem.W.find_K D.k.at_ (D.none hl)]
    rw [hl] at q2
    exact ⟨.non, H2, I2.tok _, rfl, q2⟩
  | some y =>
    obtain ⟨t2, e⟩ := D.some hl
    rw [PySem.W.find_K D.k.at_ e]
    rw [hl] at q2
    exact ⟨.str y, H2, I2.tok _, ⟨t2, rfl⟩, q2⟩
end
theorem SDict.at {K : PySem.W.Frag} {w : World} {mg : Str → Option Value} {x : Str} {ps : List (Str × Str)} (D : SDict K w mg x ps) {z y : Str} (h : ps.lookup z = .some y) : KDct K w D.d z (.str y) := by
  obtain ⟨t, e⟩ := D.some h
  exact ⟨D.es, D.n, _, D.k.at_, D.k.lit, e, t, rfl⟩
/-! ## a dict of the module: texts by numbers -/
def dti (e : DictEntry) : Option (Str × Int) := match e.key, e.val with
  | .str x _, .int y _ => some (x, y)
  | _, _ => none
structure IDict (K : PySem.W.Frag) (w : World) (mg : Str → Option Value) (x : Str) (ps : List (Str × Int)) : Type where
  d : Addr
  es : Array DictEntry
  n : Nat
  g : mg x = some (.ref d)
  k : KDict K w d es n
  e : es.toList.map dti = ps.map some
theorem dti_find (z : Str) (y : Int) : ∀ (es : List DictEntry) (ps : List (Str × Int)), es.map dti = ps.map some → ps.lookup z = some y → ∃ e t, es.find? (·.key.isStr z) = some e ∧ e.val = .int y t
  | [], [], _, h => by cases h
  | [], _ :: _, h, _ => by cases h
  | _ :: _, [], h, _ => by cases h
  | e :: es, p :: ps, h, hy => by
    obtain ⟨h1, h2⟩ := List.cons.inj h
    obtain ⟨a, b⟩ := p
    unfold dti at h1
    split at h1
    · rename_i x t y' t2 k1 k2
      obtain ⟨rfl, rfl⟩ := Prod.mk.inj (Option.some.inj h1)
      have hk : e.key.isStr z = (x == z) := by rw [k1]; rfl
      by_cases hz : z = x
      · subst hz
        rw [List.lookup_cons_self] at hy
        cases hy
        refine ⟨e, t2, ?_, k2⟩
        rw [List.find?_cons, hk]
        simp
      · have hb : (z == x) = false := beq_eq_false_iff_ne.mpr hz
        have hb2 : (x == z) = false := beq_eq_false_iff_ne.mpr fun q => hz q.symm
        rw [List.lookup_cons, hb] at hy
        obtain ⟨e', t', i1, i2⟩ := dti_find z y es ps h2 hy
        refine ⟨e', t', ?_, i2⟩
        rw [List.find?_cons, hk, hb2]
        exact i1
    · cases h1
theorem IDict.at {K : PySem.W.Frag} {w : World} {mg : Str → Option Value} {x : Str} {ps : List (Str × Int)} (D : IDict K w mg x ps) {z : Str} {y : Int} (h : ps.lookup z = .some y) : KDct K w D.d z (.int y) := by
  obtain ⟨e, t, h1, h2⟩ := dti_find z y _ _ D.e h
  refine ⟨D.es, D.n, .int y t, D.k.at_, D.k.lit, ?_, t, rfl⟩
  unfold PySem.W.nsIn
  rw [D.k.at_]
  dsimp only
  rw [h1]
  dsimp only
  rw [h2]
theorem pe_id {X : Cx} {x : Str} {ps : List (Str × Int)} {pos : Pos} (D : IDict X.K X.w X.mg x ps) (hg : Gl X x) (hd : (x == ("__debug__" : Str)) = false) : PE X (.Name x pos) (tC (.ref D.d)) := pe_glob hg D.g rfl hd
end BK

namespace BK
open PySem PySem.Spec PyProof.Rows L2

/-! ### a word again and again -/
def rep (w : List Nat) (n : Nat) : List Nat := (List.replicate n w).flatten
theorem rep_zero (w : List Nat) : rep w 0 = [] := rfl
theorem rep_succ (w : List Nat) (n : Nat) : rep w (n + 1) = w ++ rep w n := by unfold rep; rw [List.replicate_succ, List.flatten_cons]
theorem rep_len (w : List Nat) : ∀ n, (rep w n).length = n * w.length
  | 0 => by rw [rep_zero]; simp
  | n + 1 => by rw [rep_succ, List.length_append, rep_len w n, Nat.add_mul, Nat.one_mul, Nat.add_comm]
theorem rep_add (w : List Nat) (m : Nat) : ∀ n, rep w (n + m) = rep w n ++ rep w m
  | 0 => by rw [Nat.zero_add, rep_zero, List.nil_append]
  | n + 1 => by rw [show n + 1 + m = (n + m) + 1 by omega, rep_succ, rep_add w m n, rep_succ, List.append_assoc]
theorem rep_get (w : List Nat) : ∀ (n i : Nat), i < n * w.length → (rep w n)[i]? = w[i % w.length]?
  | 0, i, h => by simp at h
  | n + 1, i, h => by
    rw [rep_succ]
    by_cases hi : i < w.length
    · rw [List.getElem?_append_left hi, Nat.mod_eq_of_lt hi]
    · have hn : w.length ≤ i := by omega
      have h2 : i - w.length < n * w.length := by rw [Nat.add_mul, Nat.one_mul] at h; omega
      rw [List.getElem?_append_right hn, rep_get w n _ h2, Nat.mod_eq_sub_mod hn]
theorem rep_count (w : List Nat) (c : Nat) : ∀ n, (rep w n).count c = n * w.count c
  | 0 => by rw [rep_zero]; simp
  | n + 1 => by rw [rep_succ, List.count_append, rep_count w c n, Nat.add_mul, Nat.one_mul, Nat.add_comm]
theorem rep_take {w : List Nat} (hw : w ≠ []) {n m : Nat} (h : m ≤ n * w.length) : (rep w n).take m = rep w (m / w.length) ++ w.take (m % w.length) := by
  have hp : 0 < w.length := List.length_pos_iff.mpr hw
  have hq : m / w.length ≤ n := by
    have := Nat.div_le_div_right (c := w.length) h
    rwa [Nat.mul_div_cancel _ hp] at this
  have e : n = m / w.length + (n - m / w.length) := by omega
  rw [e, rep_add]
  have hm : m = m / w.length * w.length + m % w.length := by rw [Nat.mul_comm]; exact (Nat.div_add_mod m w.length).symm
  rw [List.take_append, rep_len]
  have h1 : List.take m (rep w (m / w.length)) = rep w (m / w.length) := List.take_of_length_le (by rw [rep_len]; exact Nat.div_mul_le_self _ _)
  rw [h1]
  have h2 : m - m / w.length * w.length = m % w.length := by
    omega
  rw [h2]
  congr 1
  have hlt := Nat.mod_lt m hp
  cases hk : n - m / w.length with
  | zero =>
    have h3 : m ≤ m / w.length * w.length := by
      have e3 : n = m / w.length := by omega
      have h4 := h
      rw [e3] at h4
      exact h4
    have h5 : m % w.length = 0 := by omega
    rw [h5, rep_zero, List.take_zero, List.take_zero]
  | succ k => rw [rep_succ, List.take_append_of_le_length (by omega)]
theorem rep_take_count {w : List Nat} (hw : w ≠ []) {n m : Nat} (c : Nat) (h : m ≤ n * w.length) : ((rep w n).take m).count c = w.count c * (m / w.length) + (w.take (m % w.length)).count c := by
  rw [rep_take hw h, List.count_append, rep_count, Nat.mul_comm]

/-! ### texts by pieces -/
abbrev Pcs := List (List Nat × Nat)
def spell (ps : Pcs) : List Nat := (ps.map fun p => rep p.1 p.2).flatten
theorem spell_nil : spell [] = [] := rfl
theorem spell_cons (p : List Nat × Nat) (ps : Pcs) : spell (p :: ps) = rep p.1 p.2 ++ spell ps := by unfold spell; rw [List.map_cons, List.flatten_cons]
theorem spell_app (ps qs : Pcs) : spell (ps ++ qs) = spell ps ++ spell qs := by unfold spell; rw [List.map_append, List.flatten_append]
def size (ps : Pcs) : Nat := (ps.map fun p => p.1.length * p.2).sum
theorem spell_len (ps : Pcs) : (spell ps).length = size ps := by
  induction ps with
  | nil => rfl
  | cons p ps ih => rw [spell_cons, List.length_append, ih, rep_len]; unfold size; rw [List.map_cons, List.sum_cons, Nat.mul_comm]
theorem size_cons (p : List Nat × Nat) (ps : Pcs) : size (p :: ps) = p.1.length * p.2 + size ps := rfl
theorem size_take_succ (ps : Pcs) : ∀ {i : Nat} {p}, ps[i]? = some p → size (ps.take (i + 1)) = size (ps.take i) + p.1.length * p.2 := by
  induction ps with
  | nil => intro i p h; simp at h
  | cons q ps ih =>
    intro i p h
    cases i with
    | zero =>
      have e : q = p := by simpa using h
      subst e
      simp [size]
    | succ i =>
      have := ih (i := i) (p := p) (by simpa using h)
      rw [List.take_succ_cons, size_cons, this, List.take_succ_cons, size_cons, Nat.add_assoc]
theorem size_take_le (ps : Pcs) (i : Nat) : size (ps.take i) ≤ size ps := by
  induction ps generalizing i with
  | nil => simp
  | cons q ps ih =>
    cases i with
    | zero => simp [size]
    | succ i => rw [List.take_succ_cons, size_cons, size_cons]; have := ih i; omega

/-- small letters -/
def alpha : List Nat := [97, 98, 99, 100, 101, 102, 103, 104, 105, 106, 107, 108, 109, 110, 111, 112, 113, 114, 115, 116, 117, 118, 119, 120, 121, 122]
theorem tx_alpha : tx alpha = ("abcdefghijklmnopqrstuvwxyz" : Str) := by decide +kernel
def Plain (w : List Nat) : Prop := w.all (alpha.contains ·) = true
def Word (w : List Nat) : Prop := Plain w ∧ w ≠ [] ∧ w.length ≤ 60
structure Good (ps : Pcs) : Prop where
  few : ps.length ≤ 40
  ok : ∀ p ∈ ps, Word p.1 ∧ 1 ≤ p.2
  all : size ps ≤ 10 ^ 30

/-! ### things -/
inductive Dt where
  | non | bl (b : Bool) | int (i : Int) | str (w : List Nat) | lst (xs : List Dt) | tup (xs : List Dt) | dic
mutual
def At (K : PySem.W.Frag) (H : Hp) : V → Dt → Prop
  | v, .non => v = .non
  | v, .bl b => v = .bl b
  | v, .int i => v = .int i
  | v, .str w => v = .str (tx w) ∧ w.length ≤ 1000000
  | v, .lst ds => ∃ a xs, v = .ref a ∧ SqL K H a xs ∧ Ats K H xs ds
  | v, .tup ds => ∃ a xs, v = .ref a ∧ SqT K H a xs ∧ Ats K H xs ds
  | v, .dic => ∃ a, v = .ref a ∧ H a = some (.dK [])
def Ats (K : PySem.W.Frag) (H : Hp) : List V → List Dt → Prop
  | vs, [] => vs = []
  | vs, d :: ds => ∃ v us, vs = v :: us ∧ At K H v d ∧ Ats K H us ds
end
section
variable {K : PySem.W.Frag} {H H' : Hp}
mutual
theorem At.same (e : Same H H') : ∀ (d : Dt) (v : V), At K H v d → At K H' v d
  | .non, v, h => by unfold At at h ⊢; exact h
  | .bl _, v, h => by unfold At at h ⊢; exact h
  | .int _, v, h => by unfold At at h ⊢; exact h
  | .str _, v, h => by unfold At at h ⊢; exact h
  | .lst ds, v, h => by
    unfold At at h ⊢
    obtain ⟨a, xs, rfl, h1, h2⟩ := h
    exact ⟨a, xs, rfl, e.seq h1, Ats.same e ds xs h2⟩
  | .tup ds, v, h => by
    unfold At at h ⊢
    obtain ⟨a, xs, rfl, h1, h2⟩ := h
    exact ⟨a, xs, rfl, sameT e h1, Ats.same e ds xs h2⟩
  | .dic, v, h => by
    unfold At at h ⊢
    obtain ⟨a, rfl, h1⟩ := h
    exact ⟨a, rfl, e _ _ h1⟩
theorem Ats.same (e : Same H H') : ∀ (ds : List Dt) (vs : List V), Ats K H vs ds → Ats K H' vs ds
  | [], vs, h => by unfold Ats at h ⊢; exact h
  | d :: ds, vs, h => by
    unfold Ats at h ⊢
    obtain ⟨v, us, rfl, h1, h2⟩ := h
    exact ⟨v, us, rfl, At.same e d v h1, Ats.same e ds us h2⟩
end
theorem Ats.len : ∀ {ds : List Dt} {vs : List V}, Ats K H vs ds → vs.length = ds.length
  | [], vs, h => by unfold Ats at h; subst h; rfl
  | d :: ds, vs, h => by
    unfold Ats at h
    obtain ⟨v, us, rfl, _, h2⟩ := h
    rw [List.length_cons, List.length_cons, h2.len]
theorem Ats.get : ∀ {ds : List Dt} {vs : List V} {i : Nat} {d : Dt}, Ats K H vs ds → ds[i]? = some d → ∃ v, vs[i]? = some v ∧ At K H v d
  | [], vs, i, d, h, e => by simp at e
  | c :: ds, vs, i, d, h, e => by
    unfold Ats at h
    obtain ⟨v, us, rfl, h1, h2⟩ := h
    cases i with
    | zero =>
      have : c = d := by simpa using e
      subst this
      exact ⟨v, rfl, h1⟩
    | succ i => exact h2.get (by simpa using e)
end
/-- the type's name -/
def Dt.ty : Dt → String
  | .non => "NoneType"
  | .bl _ => "bool"
  | .int _ => "int"
  | .str _ => "str"
  | .lst _ => "list"
  | .tup _ => "tuple"
  | .dic => "dict"
theorem ty_known (d : Dt) : d.ty ∈ knownTy := by cases d <;> simp [Dt.ty, knownTy]
theorem At.ty {K : PySem.W.Frag} {H : Hp} {v : V} {d : Dt} (h : At K H v d) : TyB K H v d.ty := by
  cases d with
  | non => unfold At at h; subst h; exact .non
  | bl b => unfold At at h; subst h; exact .bl b
  | int i => unfold At at h; subst h; exact .int i
  | str w => unfold At at h; obtain ⟨rfl, _⟩ := h; exact .str _
  | lst ds => unfold At at h; obtain ⟨a, xs, rfl, h1, _⟩ := h; exact .lst h1
  | tup ds => unfold At at h; obtain ⟨a, xs, rfl, h1, _⟩ := h; exact .tup h1
  | dic => unfold At at h; obtain ⟨a, rfl, h1⟩ := h; exact .dK h1
/-- what is_row, is_whole, .. tell -/
def isRow : Dt → Bool
  | .lst _ => true
  | .tup _ => true
  | _ => false
def Dt.items : Dt → List Dt
  | .lst ds => ds
  | .tup ds => ds
  | _ => []
def isWhole (d : Dt) (lo : Int) : Bool := match d with
  | .int i => decide (lo ≤ i)
  | _ => false
def isWithin (d : Dt) (lo hi : Int) : Bool := match d with
  | .int i => decide (lo ≤ i) && decide (i ≤ hi)
  | _ => false
def isPlain : Dt → Bool
  | .str w => w.all (alpha.contains ·)
  | _ => false
def isLetter : Dt → Bool
  | .str w => w.all (alpha.contains ·) && decide (w.length = 1)
  | _ => false
def isClip : Dt → Bool
  | .str w => w.all (alpha.contains ·) && decide (w.length ≤ 60)
  | _ => false
def isWord : Dt → Bool
  | .str w => w.all (alpha.contains ·) && decide (w.length ≤ 60) && decide (w ≠ [])
  | _ => false
def isPiece (d : Dt) : Bool := isRow d && (match d.items with
  | [a, b] => isWord a && isWhole b 1
  | _ => false)
def pieceSize (d : Dt) : Int := match d.items with
  | [.str w, .int n] => (w.length : Int) * n
  | _ => 0
def isText (d : Dt) : Bool := isRow d && decide (d.items.length ≤ 40) && d.items.all isPiece && decide ((d.items.map pieceSize).sum ≤ 10 ^ 30)
/-- a text's pieces -/
def pcOf (d : Dt) : List Nat × Nat := match d.items with
  | [.str w, .int n] => (w, n.toNat)
  | _ => ([], 0)
def pcs (d : Dt) : Pcs := d.items.map pcOf
theorem isPiece_of {d : Dt} (h : isPiece d = true) : ∃ w n, d.items = [.str w, .int n] ∧ isRow d = true ∧ Word w ∧ 1 ≤ n := by
  unfold isPiece at h
  rw [Bool.and_eq_true] at h
  obtain ⟨h1, h2⟩ := h
  split at h2
  · rename_i a b e
    rw [Bool.and_eq_true] at h2
    obtain ⟨h3, h4⟩ := h2
    cases a with
    | str w =>
      cases b with
      | int n =>
        unfold isWord at h3
        unfold isWhole at h4
        simp only [Bool.and_eq_true, decide_eq_true_eq] at h3 h4
        exact ⟨w, n, e, h1, ⟨h3.1.1, h3.2, h3.1.2⟩, h4⟩
      | _ => simp [isWhole] at h4
    | _ => simp [isWord] at h3
  · cases h2
theorem sum_size : ∀ {ds : List Dt}, ds.all isPiece = true → (ds.map pieceSize).sum = (size (ds.map pcOf) : Int)
  | [], _ => rfl
  | d :: ds, h => by
    rw [List.all_cons, Bool.and_eq_true] at h
    obtain ⟨w, n, e, _, _, hn⟩ := isPiece_of h.1
    rw [List.map_cons, List.sum_cons, sum_size h.2, List.map_cons, size_cons]
    have e1 : pieceSize d = (w.length : Int) * n := by unfold pieceSize; rw [e]
    have e2 : pcOf d = (w, n.toNat) := by unfold pcOf; rw [e]
    rw [e1, e2, Int.natCast_add, Int.natCast_mul, Int.toNat_of_nonneg (by omega)]
theorem Good.of {d : Dt} (h : isText d = true) : Good (pcs d) := by
  unfold isText at h
  simp only [Bool.and_eq_true, decide_eq_true_eq] at h
  obtain ⟨⟨⟨h1, h2⟩, h3⟩, h4⟩ := h
  refine ⟨by unfold pcs; rw [List.length_map]; exact h2, fun p hp => ?_, ?_⟩
  · unfold pcs at hp
    obtain ⟨e, he, rfl⟩ := List.mem_map.mp hp
    obtain ⟨w, n, e1, _, hw, hn⟩ := isPiece_of (List.all_eq_true.mp h3 e he)
    have e2 : pcOf e = (w, n.toNat) := by unfold pcOf; rw [e1]
    rw [e2]
    exact ⟨hw, by show 1 ≤ n.toNat; omega⟩
  · rw [sum_size h3] at h4
    unfold pcs
    have : ((10 ^ 30 : Nat) : Int) = (10 ^ 30 : Int) := by decide
    omega

/-! ### a text in the heap, by its pieces -/
def PieceAt (K : PySem.W.Frag) (H : Hp) (v : V) (p : List Nat × Nat) : Prop := ∃ a, v = .ref a ∧ Row K H a [.str (tx p.1), .int p.2]
def TextAt (K : PySem.W.Frag) (H : Hp) (v : V) (ps : Pcs) : Prop := ∃ a xs, v = .ref a ∧ Row K H a xs ∧ Paired (PieceAt K H) xs ps
theorem prd_same {α β : Type} {R S : α → β → Prop} (f : ∀ a b, R a b → S a b) : ∀ {xs : List α} {ys : List β}, Paired R xs ys → Paired S xs ys
  | _, _, .nil => .nil
  | _, _, .cons h t => .cons (f _ _ h) (prd_same f t)
theorem PieceAt.same {K : PySem.W.Frag} {H H' : Hp} {v : V} {p} (e : Same H H') (h : PieceAt K H v p) : PieceAt K H' v p := by
  obtain ⟨a, rfl, h⟩ := h
  exact ⟨a, rfl, h.same e⟩
theorem TextAt.same {K : PySem.W.Frag} {H H' : Hp} {v : V} {ps} (e : Same H H') (h : TextAt K H v ps) : TextAt K H' v ps := by
  obtain ⟨a, xs, rfl, h1, h2⟩ := h
  exact ⟨a, xs, rfl, h1.same e, prd_same (fun _ _ => PieceAt.same e) h2⟩
theorem at_row {K : PySem.W.Frag} {H : Hp} {v : V} {d : Dt} (h : At K H v d) (hr : isRow d = true) : ∃ a xs, v = .ref a ∧ Row K H a xs ∧ Ats K H xs d.items := by
  cases d with
  | lst ds => unfold At at h; obtain ⟨a, xs, rfl, h1, h2⟩ := h; exact ⟨a, xs, rfl, .inl h1, h2⟩
  | tup ds => unfold At at h; obtain ⟨a, xs, rfl, h1, h2⟩ := h; exact ⟨a, xs, rfl, .inr h1, h2⟩
  | _ => simp [isRow] at hr
theorem pieceAt_of {K : PySem.W.Frag} {H : Hp} {v : V} {d : Dt} (h : At K H v d) (hp : isPiece d = true) : PieceAt K H v (pcOf d) := by
  obtain ⟨w, n, e, hr, hw, hn⟩ := isPiece_of hp
  obtain ⟨a, xs, rfl, h1, h2⟩ := at_row h hr
  rw [e] at h2
  unfold Ats at h2
  obtain ⟨v1, us, rfl, g1, h2⟩ := h2
  unfold Ats at h2
  obtain ⟨v2, us, rfl, g2, h2⟩ := h2
  unfold Ats at h2
  subst h2
  unfold At at g1 g2
  obtain ⟨rfl, _⟩ := g1
  subst g2
  have e2 : pcOf d = (w, n.toNat) := by unfold pcOf; rw [e]
  rw [e2]
  refine ⟨a, rfl, ?_⟩
  show Row K H a [.str (tx w), .int (n.toNat : Int)]
  rw [Int.toNat_of_nonneg (by omega)]
  exact h1
theorem textAt_of {K : PySem.W.Frag} {H : Hp} {v : V} {d : Dt} (h : At K H v d) (ht : isText d = true) : TextAt K H v (pcs d) := by
  unfold isText at ht
  simp only [Bool.and_eq_true, decide_eq_true_eq] at ht
  obtain ⟨⟨⟨h1, h2⟩, h3⟩, h4⟩ := ht
  obtain ⟨a, xs, rfl, g1, g2⟩ := at_row h h1
  refine ⟨a, xs, rfl, g1, ?_⟩
  unfold pcs
  generalize hd : d.items = ds at g2 h3
  clear hd h4 h1 h2 g1 h
  induction ds generalizing xs with
  | nil => unfold Ats at g2; subst g2; exact .nil
  | cons c ds ih =>
    unfold Ats at g2
    obtain ⟨v, us, rfl, k1, k2⟩ := g2
    rw [List.all_cons, Bool.and_eq_true] at h3
    exact .cons (pieceAt_of k1 h3.1) (ih us k2 h3.2)
theorem prd_at {α β : Type} {R : α → β → Prop} {xs : List α} {ys : List β} (h : Paired R xs ys) : ∀ {i : Nat} {x : α}, xs[i]? = some x → ∃ y, ys[i]? = some y ∧ R x y := by
  induction h with
  | nil => intro i x e; simp at e
  | cons h t ih =>
    intro i x e
    cases i with
    | zero =>
      have := Option.some.inj e
      subst this
      exact ⟨_, rfl, h⟩
    | succ i => exact ih (by simpa using e)
theorem prd_len {α β : Type} {R : α → β → Prop} {xs : List α} {ys : List β} (h : Paired R xs ys) : xs.length = ys.length := Paired.length h

theorem at_ofA {α : Type} {xs : List α} {z : Int} {j : Nat} {v : α} (e : z = (j : Int)) (h : xs[j]? = some v) : atI xs z = some v := by
  rw [e]
  exact atI_nat h
/-! ### readings over rows -/
section
variable {K : PySem.W.Frag} {H : Hp} {a : Addr} {xs : List V}
theorem ix_row {i : Int} {x : V} {Q : VK} (h : Row K H a xs) (e : atI xs i = some x) (q : Q x H) : rIx K (.ref a) (.int i) H Q := by
  rcases h with h | h
  · exact .inl ⟨a, xs, i, x, rfl, rfl, h, e, q⟩
  · exact .inr (.inl ⟨a, xs, i, x, rfl, rfl, h, e, q⟩)
theorem ix_lst {i : Int} {x : V} {Q : VK} (h : H a = some (.lst xs)) (e : atI xs i = some x) (q : Q x H) : rIx K (.ref a) (.int i) H Q := ix_row (.inl (SqL.of h)) e q
theorem ix_tx {z : List Nat} {i : Int} {c : Nat} {Q : VK} (h : z.length ≤ 1000000) (e : atI z i = some c) (q : Q (.str (tx [c])) H) : rIx K (.str (tx z)) (.int i) H Q :=
  .inr (.inr ⟨tx z, i, c, rfl, rfl, by rw [tx_len]; exact Nat.le_trans h (by decide), by rw [tx_cps]; exact e, q⟩)
theorem len_row {Q : VK} (h : Row K H a xs) (q : Q (.int xs.length) H) : rLenA K [.ref a] H Q := .inl ⟨a, xs, rfl, h, q⟩
theorem len_tx {w : List Nat} {Q : VK} (h : w.length ≤ 1000000) (q : Q (.int w.length) H) : rLenA K [.str (tx w)] H Q :=
  .inr ⟨tx w, rfl, by rw [tx_len]; exact Nat.le_trans h (by decide), by rw [tx_len]; exact q⟩
end
theorem Ats.at {K : PySem.W.Frag} {H : Hp} : ∀ {ds : List Dt} {vs : List V} {i : Nat} {v : V}, Ats K H vs ds → vs[i]? = some v → ∃ d, ds[i]? = some d ∧ At K H v d
  | [], vs, i, v, h, e => by unfold Ats at h; subst h; simp at e
  | c :: ds, vs, i, v, h, e => by
    unfold Ats at h
    obtain ⟨x, us, rfl, h1, h2⟩ := h
    cases i with
    | zero =>
      have : x = v := by simpa using e
      subst this
      exact ⟨c, rfl, h1⟩
    | succ i => exact h2.at (by simpa using e)
theorem isum_take : ∀ {l : List Int} {i : Nat} {z : Int}, l[i]? = some z → (l.take (i + 1)).sum = (l.take i).sum + z := sum_take
theorem all_take_succ {α : Type} {p : α → Bool} {l : List α} {i : Nat} {x : α} (h : (l.take i).all p = true) (e : l[i]? = some x) (hx : p x = true) : (l.take (i + 1)).all p = true := by
  rw [List.take_add_one, e, List.all_append, h]
  simp [hx]
end BK

namespace BK
open PySem PySem.Spec PyProof.Rows L2

/-! ### stretches of a word again and again -/
def cyc (w : List Nat) (at_ many : Nat) : List Nat := ((rep w ((at_ % w.length + many) / w.length + 1)).drop (at_ % w.length)).take many
theorem cyc_get {w : List Nat} (hw : w ≠ []) (a m i : Nat) (h : i < m) : (cyc w a m)[i]? = w[(a + i) % w.length]? := by
  have hp : 0 < w.length := List.length_pos_iff.mpr hw
  unfold cyc
  rw [List.getElem?_take, if_pos h, List.getElem?_drop, rep_get]
  · rw [Nat.mod_add_mod]
  · have h1 := Nat.lt_div_mul_add (a := a % w.length + m) hp
    rw [Nat.add_mul, Nat.one_mul]
    omega
theorem drop_rep {w : List Nat} (hw : w ≠ []) {n a m : Nat} (h : a + m ≤ n * w.length) : ((rep w n).drop a).take m = cyc w a m := by
  apply List.ext_getElem?
  intro i
  by_cases hi : i < m
  · rw [cyc_get hw a m i hi, List.getElem?_take, if_pos hi, List.getElem?_drop, rep_get _ _ _ (by omega)]
  · have hp : 0 < w.length := List.length_pos_iff.mpr hw
    rw [List.getElem?_take, if_neg hi]
    unfold cyc
    rw [List.getElem?_take, if_neg hi]
theorem cyc_len {w : List Nat} (hw : w ≠ []) (a m : Nat) : (cyc w a m).length = m := by
  have hp : 0 < w.length := List.length_pos_iff.mpr hw
  unfold cyc
  rw [List.length_take, List.length_drop, rep_len]
  have h1 := Nat.lt_div_mul_add (a := a % w.length + m) hp
  rw [Nat.add_mul, Nat.one_mul]
  omega

theorem rep_mem {x : List Nat} {c : Nat} : ∀ {n : Nat}, c ∈ rep x n → c ∈ x
  | 0, h => by cases h
  | n + 1, h => by
    rw [rep_succ] at h
    rcases List.mem_append.mp h with h | h
    · exact h
    · exact rep_mem h
/-! ### spans -/
abbrev Span := Nat × Nat × List Nat
def spansOf : Nat → Pcs → List Span
  | _, [] => []
  | s, p :: ps => (s, s + p.1.length * p.2, p.1) :: spansOf (s + p.1.length * p.2) ps
theorem spansOf_len : ∀ (ps : Pcs) (s : Nat), (spansOf s ps).length = ps.length
  | [], _ => rfl
  | p :: ps, s => by unfold spansOf; rw [List.length_cons, spansOf_len ps, List.length_cons]
theorem spansOf_get : ∀ (ps : Pcs) (s i : Nat) (p), ps[i]? = some p → (spansOf s ps)[i]? = some (s + size (ps.take i), s + size (ps.take i) + p.1.length * p.2, p.1)
  | [], s, i, p, h => by simp at h
  | q :: ps, s, 0, p, h => by
    have : q = p := by simpa using h
    subst this
    simp [spansOf, size]
  | q :: ps, s, i + 1, p, h => by
    unfold spansOf
    rw [List.getElem?_cons_succ, spansOf_get ps _ i p (by simpa using h), List.take_succ_cons, size_cons]
    simp only [Nat.add_assoc]
theorem spansOf_at (ps : Pcs) {i : Nat} {x : Span} (h : (spansOf 0 ps)[i]? = some x) : ∃ p, ps[i]? = some p ∧ x = (size (ps.take i), size (ps.take i) + p.1.length * p.2, p.1) := by
  have hl := (List.getElem?_eq_some_iff.mp h).1
  rw [spansOf_len] at hl
  refine ⟨ps[i], List.getElem?_eq_getElem hl, ?_⟩
  have := spansOf_get ps 0 i ps[i] (List.getElem?_eq_getElem hl)
  rw [this] at h
  have := Option.some.inj h
  rw [← this]
  simp only [Nat.zero_add]
def SpanAt (H : Hp) (v : V) (x : Span) : Prop := ∃ a, v = .ref a ∧ H a = some (.tup [.int x.1, .int x.2.1, .str (tx x.2.2)])
def SpansAt (H : Hp) (a : Addr) (xs : List Span) : Prop := ∃ us, H a = some (.lst us) ∧ Paired (SpanAt H) us xs
theorem SpanAt.same {H H' : Hp} {v : V} {x : Span} (e : Same H H') (h : SpanAt H v x) : SpanAt H' v x := by
  obtain ⟨a, rfl, h⟩ := h
  exact ⟨a, rfl, e _ _ h⟩
theorem SpansAt.same {H H' : Hp} {a : Addr} {xs : List Span} (e : Same H H') (h : SpansAt H a xs) : SpansAt H' a xs := by
  obtain ⟨us, h1, h2⟩ := h
  exact ⟨us, e _ _ h1, prd_same (fun _ _ => SpanAt.same e) h2⟩
theorem SpanAt.upd {H : Hp} {v : V} {x : Span} {o : Addr} {us vs : List V} (ho : H o = some (.lst us)) (h : SpanAt H v x) : SpanAt (upd H o (.lst vs)) v x := by
  obtain ⟨a, rfl, h⟩ := h
  exact ⟨a, rfl, by rw [upd_ne (ne_of h ho (by intro z; cases z))]; exact h⟩
theorem prd_snoc {α β : Type} {R : α → β → Prop} {xs : List α} {ys : List β} {x : α} {y : β} (h : Paired R xs ys) (hxy : R x y) : Paired R (xs ++ [x]) (ys ++ [y]) := by
  induction h with
  | nil => exact .cons hxy .nil
  | cons a t ih => exact .cons a ih
theorem same_mut {H H' : Hp} {p : Addr} {o : HO} (e : Same H H') (h : H p = none) : Same H (upd H' p o) := fun a u ha => by
  rw [upd_ne (ne_of_none ha h)]
  exact e a u ha
/-- the spans' end -/
theorem spansOf_last {ps : Pcs} (h : ps ≠ []) : ∃ p s, ps.getLast? = some p ∧ (spansOf 0 ps).getLast? = some (s, size ps, p.1) := by
  have hp : 0 < ps.length := List.length_pos_iff.mpr h
  have e := List.getElem?_eq_getElem (l := ps) (i := ps.length - 1) (by omega)
  refine ⟨ps[ps.length - 1], size (ps.take (ps.length - 1)), by rw [List.getLast?_eq_getElem?, e], ?_⟩
  rw [List.getLast?_eq_getElem?, spansOf_len, spansOf_get ps 0 _ _ e, Nat.zero_add, ← size_take_succ ps e, show ps.length - 1 + 1 = ps.length by omega, List.take_length]

/-! ### looks, counts, so-manieths of what is spelled -/
theorem spell_take_succ {ps : Pcs} {i : Nat} {p} (h : ps[i]? = some p) : spell (ps.take (i + 1)) = spell (ps.take i) ++ rep p.1 p.2 := by
  rw [List.take_add_one, h, spell_app]
  show _ ++ spell [p] = _
  rw [spell_cons, spell_nil, List.append_nil]
theorem look_app (A B : List Nat) (p m : Nat) : ((A ++ B).drop p).take m = (A.drop p).take m ++ (B.drop (max A.length p - A.length)).take (min (A.length + B.length) (p + m) - max A.length p) := by
  rw [List.drop_append, List.take_append, List.length_drop]
  congr 1
  rw [show max A.length p - A.length = p - A.length by omega]
  by_cases h : m - (A.length - p) ≤ B.length - (p - A.length)
  · congr 1
    omega
  · rw [List.take_of_length_le (by rw [List.length_drop]; omega), List.take_of_length_le (by rw [List.length_drop]; omega)]
theorem count_app (A B : List Nat) (c m : Nat) : ((A ++ B).take m).count c = (A.take m).count c + (B.take (min (A.length + B.length) m - A.length)).count c := by
  rw [List.take_append, List.count_append]
  congr 2
  by_cases h : m - A.length ≤ B.length
  · congr 1
    omega
  · rw [List.take_of_length_le (by omega), List.take_of_length_le (by omega)]
/-- the places of a sign -/
def pos (w : List Nat) (c : Nat) : List Nat := (List.range w.length).filter fun i => w[i]? == some c
def IsNth (l : List Nat) (c k i : Nat) : Prop := l[i]? = some c ∧ (l.take i).count c = k
theorem posTo (w : List Nat) (c : Nat) : ∀ n, n ≤ w.length → ((List.range n).filter fun i => w[i]? == some c).length = (w.take n).count c ∧
    ∀ k i, ((List.range n).filter fun i => w[i]? == some c)[k]? = some i → IsNth w c k i
  | 0, _ => ⟨by simp, fun k i h => by simp at h⟩
  | n + 1, hn => by
    obtain ⟨ih1, ih2⟩ := posTo w c n (by omega)
    rw [List.range_succ, List.filter_append]
    have hg : w[n]? = some w[n] := List.getElem?_eq_getElem (by omega)
    by_cases hc : w[n] = c
    · have e : (List.filter (fun i => w[i]? == some c) [n]) = [n] := by
        rw [List.filter_cons, hg, hc]
        simp
      rw [e]
      have hcount : (w.take (n + 1)).count c = (w.take n).count c + 1 := by
        rw [List.take_add_one, hg, List.count_append, hc]
        simp
      refine ⟨by rw [List.length_append, ih1, hcount]; rfl, fun k i h => ?_⟩
      by_cases hk : k < ((List.range n).filter fun i => w[i]? == some c).length
      · rw [List.getElem?_append_left hk] at h
        exact ih2 k i h
      · rw [List.getElem?_append_right (by omega)] at h
        have hk0 : k - ((List.range n).filter fun i => w[i]? == some c).length = 0 := by
          have := (List.getElem?_eq_some_iff.mp h).1
          simp at this
          omega
        rw [hk0] at h
        have hi : n = i := by simpa using h
        subst hi
        refine ⟨by rw [hg, hc], ?_⟩
        rw [← ih1]
        omega
    · have e : (List.filter (fun i => w[i]? == some c) [n]) = [] := by
        rw [List.filter_cons, hg]
        simp [hc]
      rw [e, List.append_nil]
      have hcount : (w.take (n + 1)).count c = (w.take n).count c := by
        rw [List.take_add_one, hg, List.count_append]
        simp [hc]
      exact ⟨by rw [ih1, hcount], ih2⟩
theorem pos_len (w : List Nat) (c : Nat) : (pos w c).length = w.count c := by
  have := (posTo w c w.length (Nat.le_refl _)).1
  rw [List.take_length] at this
  exact this
theorem pos_get {w : List Nat} {c k i : Nat} (h : (pos w c)[k]? = some i) : IsNth w c k i := (posTo w c w.length (Nat.le_refl _)).2 k i h
theorem nth_rep {w : List Nat} {c q r i n : Nat} (h : IsNth w c r i) (hq : q < n) : IsNth (rep w n) c (q * w.count c + r) (q * w.length + i) := by
  have hi := (List.getElem?_eq_some_iff.mp h.1).1
  have e : n = q + ((n - q - 1) + 1) := by omega
  rw [e, rep_add, rep_succ]
  constructor
  · rw [List.getElem?_append_right (by rw [rep_len]; omega), rep_len, show q * w.length + i - q * w.length = i by omega, List.getElem?_append_left hi]
    exact h.1
  · rw [List.take_append, rep_len, List.count_append, List.take_of_length_le (by rw [rep_len]; omega), rep_count, show q * w.length + i - q * w.length = i by omega, List.take_append_of_le_length (by omega), h.2]
theorem nth_app_right {A B : List Nat} {c k i : Nat} (h : IsNth B c k i) : IsNth (A ++ B) c (A.count c + k) (A.length + i) := by
  constructor
  · rw [List.getElem?_append_right (by omega), show A.length + i - A.length = i by omega]
    exact h.1
  · rw [List.take_append, List.count_append, List.take_of_length_le (by omega), show A.length + i - A.length = i by omega, h.2]
theorem nth_app_left {A B : List Nat} {c k i : Nat} (h : IsNth A c k i) : IsNth (A ++ B) c k i := by
  have hi := (List.getElem?_eq_some_iff.mp h.1).1
  exact ⟨by rw [List.getElem?_append_left hi]; exact h.1, by rw [List.take_append_of_le_length (by omega)]; exact h.2⟩
theorem sum_le_len : ∀ (ss : List (List Nat)), (ss.map (·.length)).sum = ss.flatten.length
  | [] => rfl
  | a :: r => by rw [List.map_cons, List.sum_cons, sum_le_len r, List.flatten_cons, List.length_append]
end BK

namespace BK
open PySem PySem.Spec PyProof.Rows L2

/-! ### two rows of letters that go round -/
theorem two_rounds {u v : Nat → Option Nat} {p q low high : Nat} (hp : 0 < p) (hq : 0 < q) (hu : ∀ i, low ≤ i → i + p < high → u (i + p) = u i) (hv : ∀ i, low ≤ i → i + q < high → v (i + q) = v i)
    (h : ∀ i, low ≤ i → i < low + p + q → i < high → u i = v i) : ∀ n i, i ≤ n → low ≤ i → i < high → u i = v i
  | 0, i, hn, hl, hh => h i hl (by omega) hh
  | n + 1, i, hn, hl, hh => by
    by_cases hi : i < low + p + q
    · exact h i hl hi hh
    · have ih := two_rounds hp hq hu hv h n
      have e1 : u i = u (i - p) := by
        have := hu (i - p) (by omega) (by omega)
        rwa [show i - p + p = i by omega] at this
      have e2 := ih (i - p) (by omega) (by omega) (by omega)
      have e3 : v (i - p) = v (i - p - q) := by
        have := hv (i - p - q) (by omega) (by omega)
        rwa [show i - p - q + q = i - p by omega] at this
      have e4 := ih (i - p - q) (by omega) (by omega) (by omega)
      have e5 : u (i - q) = u (i - p - q) := by
        have := hu (i - p - q) (by omega) (by omega)
        rwa [show i - p - q + p = i - q by omega] at this
      have e6 := ih (i - q) (by omega) (by omega) (by omega)
      have e7 : v i = v (i - q) := by
        have := hv (i - q) (by omega) (by omega)
        rwa [show i - q + q = i by omega] at this
      rw [e1, e2, e3, ← e4, ← e5, e6, e7]
/-- between two ends a text is one word again and again, or has ended -/
def Round (A : List Nat) (low high : Nat) : Prop := ∃ p, 0 < p ∧ p ≤ 60 ∧ ∀ i, low ≤ i → i + p < high → A[i + p]? = A[i]?
theorem round_of : ∀ (ps : Pcs) (low high : Nat), (∀ x ∈ ps, x.1 ≠ [] ∧ x.1.length ≤ 60) → low < high → (∀ k, k < ps.length → size (ps.take (k + 1)) ≤ low ∨ high ≤ size (ps.take (k + 1))) →
    size ps ≤ low ∨ (high ≤ size ps ∧ Round (spell ps) low high)
  | [], low, high, _, _, _ => .inl (Nat.zero_le _)
  | x :: ps, low, high, hg, hlh, he => by
    have hx := hg x (List.mem_cons_self ..)
    have hp : 0 < x.1.length := List.length_pos_iff.mpr hx.1
    have e0 : size ((x :: ps).take (0 + 1)) = x.1.length * x.2 := by simp [size]
    have hmul : x.2 * x.1.length = x.1.length * x.2 := Nat.mul_comm _ _
    by_cases hl : low < x.1.length * x.2
    · have h1 := he 0 (by simp)
      rw [e0] at h1
      have h2 : high ≤ x.1.length * x.2 := by omega
      refine .inr ⟨by rw [size_cons]; omega, x.1.length, hp, hx.2, fun i h3 h4 => ?_⟩
      rw [spell_cons, List.getElem?_append_left (by rw [rep_len, hmul]; omega), List.getElem?_append_left (by rw [rep_len, hmul]; omega), rep_get _ _ _ (by rw [hmul]; omega), rep_get _ _ _ (by rw [hmul]; omega), Nat.add_mod_right]
    · have ih := round_of ps (low - x.1.length * x.2) (high - x.1.length * x.2) (fun y hy => hg y (List.mem_cons_of_mem _ hy)) (by omega) (fun k hk => by
        have := he (k + 1) (by rw [List.length_cons]; omega)
        rw [List.take_succ_cons, size_cons] at this
        omega)
      rcases ih with ih | ⟨ih1, p, ih2, ih3, ih4⟩
      · exact .inl (by rw [size_cons]; omega)
      · refine .inr ⟨by rw [size_cons]; omega, p, ih2, ih3, fun i h3 h4 => ?_⟩
        have := ih4 (i - x.1.length * x.2) (by omega) (by omega)
        rw [spell_cons, List.getElem?_append_right (by rw [rep_len, hmul]; omega), List.getElem?_append_right (by rw [rep_len, hmul]; omega), rep_len, hmul]
        rw [show i + p - x.1.length * x.2 = i - x.1.length * x.2 + p by omega]
        exact this
/-- told so far alike, and so on the next stretch: alike to the next end -/
theorem alike_on {A B : List Nat} {low high : Nat} (hlh : low ≤ high) (h0 : A.take low = B.take low)
    (hA : A.length ≤ low ∨ (high ≤ A.length ∧ Round A low high)) (hB : B.length ≤ low ∨ (high ≤ B.length ∧ Round B low high))
    (h : (A.drop low).take (min (high - low) 120) = (B.drop low).take (min (high - low) 120)) : A.take high = B.take high := by
  by_cases he : low = high
  · rw [← he]
    exact h0
  have hlt : low < high := by omega
  have hl := congrArg List.length h
  rw [List.length_take, List.length_take, List.length_drop, List.length_drop] at hl
  rcases hA with hA | ⟨hA, p, hp, hp2, hpA⟩
  · rcases hB with hB | ⟨hB, _⟩
    · rw [List.take_of_length_le hA, List.take_of_length_le hB] at h0
      rw [h0]
    · omega
  · rcases hB with hB | ⟨hB, q, hq, hq2, hqB⟩
    · omega
    · have hag : ∀ i, low ≤ i → i < low + p + q → i < high → A[i]? = B[i]? := fun i h1 h2 h3 => by
        have e := congrArg (fun l => l[i - low]?) h
        simp only [List.getElem?_take, List.getElem?_drop] at e
        rw [if_pos (by omega), if_pos (by omega), show low + (i - low) = i by omega] at e
        exact e
      have hall := two_rounds (u := fun i => A[i]?) (v := fun i => B[i]?) hp hq hpA hqB hag
      apply List.ext_getElem?
      intro i
      rw [List.getElem?_take, List.getElem?_take]
      by_cases hi : i < high
      · rw [if_pos hi, if_pos hi]
        by_cases hil : i < low
        · have e := congrArg (fun l => l[i]?) h0
          simp only [List.getElem?_take] at e
          rw [if_pos hil, if_pos hil] at e
          exact e
        · exact hall i i (Nat.le_refl _) (by omega) hi
      · rw [if_neg hi, if_neg hi]
/-- the first place at which two rows are unlike -/
def Unlike (A B : List Nat) (i : Nat) : Prop := A.take i = B.take i ∧ A[i]? ≠ B[i]?
theorem Unlike.symm {A B : List Nat} {i : Nat} (h : Unlike A B i) : Unlike B A i := ⟨h.1.symm, h.2.symm⟩
theorem Unlike.uniq {A B : List Nat} {i j : Nat} (h : Unlike A B i) (k : Unlike A B j) : i = j := by
  have key : ∀ {i j : Nat}, Unlike A B i → Unlike A B j → ¬ i < j := fun {i j} h k hlt => by
    have e := congrArg (fun l => l[i]?) k.1
    simp only [List.getElem?_take] at e
    rw [if_pos hlt, if_pos hlt] at e
    exact h.2 e
  have h1 := key h k
  have h2 := key k h
  omega
theorem Unlike.ne {A B : List Nat} {i : Nat} (h : Unlike A B i) : A ≠ B := fun z => h.2 (by rw [z])
theorem Unlike.le {A B : List Nat} {i : Nat} (h : Unlike A B i) : i ≤ max A.length B.length := by
  by_cases hi : i ≤ max A.length B.length
  · exact hi
  · exact absurd (by rw [List.getElem?_eq_none (by omega), List.getElem?_eq_none (by omega)]) h.2
theorem unlike_on {A B : List Nat} {low many at_ : Nat} (h0 : A.take low = B.take low) (h : Unlike ((A.drop low).take many) ((B.drop low).take many) at_) : Unlike A B (low + at_) := by
  obtain ⟨h1, h2⟩ := h
  have hlt : at_ < many := by
    by_cases hm : at_ < many
    · exact hm
    · refine absurd ?_ h2
      rw [List.getElem?_eq_none (by rw [List.length_take]; omega), List.getElem?_eq_none (by rw [List.length_take]; omega)]
  rw [List.take_take, List.take_take, Nat.min_eq_left (by omega)] at h1
  rw [List.getElem?_take, List.getElem?_take, if_pos hlt, if_pos hlt, List.getElem?_drop, List.getElem?_drop] at h2
  refine ⟨?_, h2⟩
  rw [List.take_add, List.take_add, h0, h1]
end BK

namespace BK
open PySem PySem.Spec PyProof.Rows L2
/-! ## keys and sheets -/
inductive Ky where
  | write (w : List Nat) | paste | left (n : Nat) | right (n : Nat) | strike (n : Nat) | rub (n : Nat) | copy (n : Nat) | cut (n : Nat)
def Ky.vs : Ky → List V
  | .write w => [.str "write", .str (tx w)]
  | .paste => [.str "paste"]
  | .left n => [.str "left", .int n]
  | .right n => [.str "right", .int n]
  | .strike n => [.str "strike", .int n]
  | .rub n => [.str "rub", .int n]
  | .copy n => [.str "copy", .int n]
  | .cut n => [.str "cut", .int n]
def Ky.wt : Ky → Nat
  | .write w => w.length
  | .paste => 1
  | .left n | .right n | .strike n | .rub n | .copy n | .cut n => n
def Ky.ok : Ky → Prop
  | .write w => w ≠ [] ∧ w.length ≤ 60 ∧ Plain w
  | .paste => True
  | .left n | .right n | .strike n | .rub n | .copy n | .cut n => 1 ≤ n
def hwt (ks : List Ky) : Nat := (ks.map Ky.wt).sum
structure GoodH (ks : List Ky) : Prop where
  ok : ∀ k ∈ ks, k.ok
  wt : hwt ks ≤ 60
theorem Ky.ok.pos : ∀ {k : Ky}, k.ok → 1 ≤ k.wt
  | .write w, h => List.length_pos_iff.mpr h.1
  | .paste, _ => Nat.le_refl _
  | .left n, h | .right n, h | .strike n, h | .rub n, h | .copy n, h | .cut n, h => h
theorem hwt_cons (k : Ky) (ks : List Ky) : hwt (k :: ks) = k.wt + hwt ks := by unfold hwt; rw [List.map_cons, List.sum_cons]
theorem hwt_app (as bs : List Ky) : hwt (as ++ bs) = hwt as + hwt bs := by unfold hwt; rw [List.map_append, List.sum_append]
theorem hwt_mem {k : Ky} {ks : List Ky} (h : k ∈ ks) : k.wt ≤ hwt ks := by
  induction ks with
  | nil => cases h
  | cons a as ih =>
    rw [hwt_cons]
    rcases List.mem_cons.mp h with rfl | h
    · omega
    · have := ih h; omega
theorem len_hwt : ∀ {ks : List Ky}, (∀ k ∈ ks, k.ok) → ks.length ≤ hwt ks
  | [], _ => Nat.zero_le _
  | k :: ks, h => by
    have h1 := (h k (List.mem_cons_self ..)).pos
    have h2 := len_hwt (ks := ks) fun x hx => h x (List.mem_cons_of_mem _ hx)
    rw [hwt_cons, List.length_cons]
    omega
theorem GoodH.few {ks : List Ky} (h : GoodH ks) : ks.length ≤ 60 := Nat.le_trans (len_hwt h.ok) h.wt

/-! ### what keys do: the nearest letter of a side stands last -/
section
variable {α β : Type}
def near (s : List α) (n : Nat) : List α := (s.drop (s.length - n)).reverse
def rest (s : List α) (n : Nat) : List α := s.take (s.length - n)
theorem near_len (s : List α) (n : Nat) : (near s n).length = min n s.length := by unfold near; rw [List.length_reverse, List.length_drop]; omega
theorem rest_len (s : List α) (n : Nat) : (rest s n).length = s.length - n := by unfold rest; rw [List.length_take]; omega
theorem near_map (f : α → β) (s : List α) (n : Nat) : near (s.map f) n = (near s n).map f := by unfold near; rw [List.length_map, List.map_reverse, List.map_drop]
theorem rest_map (f : α → β) (s : List α) (n : Nat) : rest (s.map f) n = (rest s n).map f := by unfold rest; rw [List.length_map, List.map_take]
structure Sd (α : Type) where
  l : List α
  r : List α
  c : List α
def Sd.map (f : α → β) (s : Sd α) : Sd β := ⟨s.l.map f, s.r.map f, s.c.map f⟩
def step (f : Nat → α) : Ky → Sd α → Sd α
  | .write w, s => ⟨s.l ++ w.map f, s.r, s.c⟩
  | .paste, s => ⟨s.l ++ s.c, s.r, s.c⟩
  | .left n, s => ⟨rest s.l n, s.r ++ near s.l n, s.c⟩
  | .right n, s => ⟨s.l ++ near s.r n, rest s.r n, s.c⟩
  | .strike n, s => ⟨s.l, rest s.r n, s.c⟩
  | .rub n, s => ⟨rest s.l n, s.r, s.c⟩
  | .copy n, s => ⟨s.l, s.r, near s.r n⟩
  | .cut n, s => ⟨s.l, rest s.r n, near s.r n⟩
theorem step_map (f : Nat → α) (g : α → β) : ∀ (k : Ky) (s : Sd α), step (fun n => g (f n)) k (s.map g) = (step f k s).map g
  | .write w, s => by
    show Sd.mk (s.l.map g ++ w.map fun n => g (f n)) _ _ = Sd.mk ((s.l ++ w.map f).map g) _ _
    rw [List.map_append, List.map_map]
    rfl
  | .paste, s => by
    show Sd.mk (s.l.map g ++ s.c.map g) _ _ = Sd.mk ((s.l ++ s.c).map g) _ _
    rw [List.map_append]
    rfl
  | .left n, s => by
    show Sd.mk (rest (s.l.map g) n) (s.r.map g ++ near (s.l.map g) n) _ = Sd.mk ((rest s.l n).map g) ((s.r ++ near s.l n).map g) _
    rw [List.map_append, near_map, rest_map]
    rfl
  | .right n, s => by
    show Sd.mk (s.l.map g ++ near (s.r.map g) n) (rest (s.r.map g) n) _ = Sd.mk ((s.l ++ near s.r n).map g) ((rest s.r n).map g) _
    rw [List.map_append, near_map, rest_map]
    rfl
  | .strike n, s => by
    show Sd.mk _ (rest (s.r.map g) n) _ = Sd.mk _ ((rest s.r n).map g) _
    rw [rest_map]
    rfl
  | .rub n, s => by
    show Sd.mk (rest (s.l.map g) n) _ _ = Sd.mk ((rest s.l n).map g) _ _
    rw [rest_map]
    rfl
  | .copy n, s => by
    show Sd.mk _ _ (near (s.r.map g) n) = Sd.mk _ _ ((near s.r n).map g)
    rw [near_map]
    rfl
  | .cut n, s => by
    show Sd.mk _ (rest (s.r.map g) n) (near (s.r.map g) n) = Sd.mk _ ((rest s.r n).map g) ((near s.r n).map g)
    rw [near_map, rest_map]
    rfl
def Sd.size (s : Sd α) : Nat := s.l.length + s.r.length
theorem step_size (f : Nat → α) : ∀ (k : Ky) (s : Sd α), k.wt ≤ 60 → s.c.length ≤ 60 → (step f k s).size ≤ s.size + 60 ∧ (step f k s).c.length ≤ 60
  | .write w, s, h, hc => by
    have h : w.length ≤ 60 := h
    unfold Sd.size step
    simp only [List.length_append, List.length_map]
    omega
  | .paste, s, h, hc => by
    unfold Sd.size step
    simp only [List.length_append]
    omega
  | .left n, s, h, hc | .right n, s, h, hc | .strike n, s, h, hc | .rub n, s, h, hc | .copy n, s, h, hc | .cut n, s, h, hc => by
    have h : n ≤ 60 := h
    unfold Sd.size step
    simp only [List.length_append, near_len, rest_len]
    omega
def steps (f : Nat → α) (ks : List Ky) (s : Sd α) : Sd α := ks.foldl (fun s k => step f k s) s
theorem steps_app (f : Nat → α) (as bs : List Ky) (s : Sd α) : steps f (as ++ bs) s = steps f bs (steps f as s) := by unfold steps; rw [List.foldl_append]
theorem steps_cons (f : Nat → α) (k : Ky) (ks : List Ky) (s : Sd α) : steps f (k :: ks) s = steps f ks (step f k s) := rfl
theorem steps_map (f : Nat → α) (g : α → β) : ∀ (ks : List Ky) (s : Sd α), steps (fun n => g (f n)) ks (s.map g) = (steps f ks s).map g
  | [], _ => rfl
  | k :: ks, s => by rw [steps_cons, steps_cons, step_map, steps_map f g ks]
theorem steps_size (f : Nat → α) : ∀ (ks : List Ky) (s : Sd α), (∀ k ∈ ks, k.wt ≤ 60) → s.c.length ≤ 60 → (steps f ks s).size ≤ s.size + 60 * ks.length ∧ (steps f ks s).c.length ≤ 60
  | [], s, _, hc => ⟨Nat.le_refl _, hc⟩
  | k :: ks, s, h, hc => by
    obtain ⟨h1, h2⟩ := step_size f k s (h k (List.mem_cons_self ..)) hc
    obtain ⟨h3, h4⟩ := steps_size f ks (step f k s) (fun x hx => h x (List.mem_cons_of_mem _ hx)) h2
    rw [steps_cons, List.length_cons]
    exact ⟨by omega, h4⟩
/-- so many pressings -/
def presses (f : Nat → α) (ks : List Ky) : Nat → Sd α → Sd α
  | 0, s => s
  | n + 1, s => presses f ks n (steps f ks s)
theorem presses_add (f : Nat → α) (ks : List Ky) : ∀ (m n : Nat) (s : Sd α), presses f ks (m + n) s = presses f ks n (presses f ks m s)
  | 0, n, s => by rw [Nat.zero_add]; rfl
  | m + 1, n, s => by
    rw [show m + 1 + n = (m + n) + 1 by omega]
    exact presses_add f ks m n (steps f ks s)
theorem presses_succ (f : Nat → α) (ks : List Ky) (n : Nat) (s : Sd α) : presses f ks (n + 1) s = steps f ks (presses f ks n s) := presses_add f ks n 1 s
theorem presses_map (f : Nat → α) (g : α → β) (ks : List Ky) : ∀ (n : Nat) (s : Sd α), presses (fun n => g (f n)) ks n (s.map g) = (presses f ks n s).map g
  | 0, _ => rfl
  | n + 1, s => by
    show presses _ ks n (steps _ ks (s.map g)) = _
    rw [steps_map, presses_map f g ks n]
    rfl
theorem presses_size (f : Nat → α) (ks : List Ky) (h : ∀ k ∈ ks, k.wt ≤ 60) (hl : ks.length ≤ 60) : ∀ (n : Nat) (s : Sd α), s.c.length ≤ 60 → (presses f ks n s).size ≤ s.size + 3600 * n ∧ (presses f ks n s).c.length ≤ 60
  | 0, s, hc => ⟨Nat.le_refl _, hc⟩
  | n + 1, s, hc => by
    obtain ⟨h1, h2⟩ := steps_size f ks s h hc
    obtain ⟨h3, h4⟩ := presses_size f ks h hl n (steps f ks s) h2
    exact ⟨by show (presses f ks n (steps f ks s)).size ≤ _; omega, h4⟩
end

/-! ### in the heap -/
def KeyAt (K : PySem.W.Frag) (H : Hp) (v : V) (k : Ky) : Prop := ∃ a, v = .ref a ∧ Row K H a k.vs
def HandAt (K : PySem.W.Frag) (H : Hp) (v : V) (ks : List Ky) : Prop := ∃ a xs, v = .ref a ∧ Row K H a xs ∧ Paired (KeyAt K H) xs ks
theorem KeyAt.same {K : PySem.W.Frag} {H H' : Hp} {v : V} {k} (e : Same H H') (h : KeyAt K H v k) : KeyAt K H' v k := by
  obtain ⟨a, rfl, h⟩ := h
  exact ⟨a, rfl, h.same e⟩
theorem HandAt.same {K : PySem.W.Frag} {H H' : Hp} {v : V} {ks} (e : Same H H') (h : HandAt K H v ks) : HandAt K H' v ks := by
  obtain ⟨a, xs, rfl, h1, h2⟩ := h
  exact ⟨a, xs, rfl, h1.same e, prd_same (fun _ _ => KeyAt.same e) h2⟩
/-- [f(x) for x in (a row that stands in slot j)] -/
theorem lc_rowN {K : PySem.W.Frag} {a : Addr} {xs ys : List V} {tt : TT} {te : TE} {vs : List Nat} {σ : L2.St} {H : Hp} {Q : VK} {j k : Nat} (hv : σ[j]? = some (some (.ref a))) (hr : Row K H a xs) (hl : xs.length = ys.length) (hz : ys.length < sizeLine)
    (hw : ∀ x, wipe ((wipe σ vs).set k (some x)) vs = wipe σ vs) (ht : ∀ σ H (R : Bool → Hp → Prop), R true H → tt σ H R)
    (hs : ∀ (i : Nat) (x y : V) (H' : Hp), xs[i]? = some x → ys[i]? = some y → Same H H' → ∀ R : VK, (∀ H4, Same H' H4 → R y H4) → te ((wipe σ vs).set k (some x)) H' R)
    (hd : ∀ D H', Same H H' → H D = none → H' D = some (.lst ys) → Q (.ref D) H') : tLc (iSeq K (tVar j)) (gName k) tt te vs σ H Q := by
  have st : ∀ D i x H', H D = none → xs[i]? = some x → Same H H' ∧ H' D = some (.lst (ys.take i)) → gName k x (wipe σ vs) H' fun σ2 H2 => wipe σ2 vs = wipe σ vs ∧ tt σ2 H2 fun b H3 =>
      if b = true then te σ2 H3 fun y H4 => ∃ acc, H4 D = some (.lst acc) ∧ acc.length < sizeLine ∧ (Same H (upd H4 D (.lst (acc ++ [y]))) ∧ (upd H4 D (.lst (acc ++ [y]))) D = some (.lst (ys.take (i + 1)))) else (Same H H3 ∧ H3 D = some (.lst (ys.take (i + 1)))) := by
    intro D i x H' nD hx ⟨s1, hD⟩
    have hi : i < ys.length := by
      rw [← hl]
      exact (List.getElem?_eq_some_iff.mp hx).1
    refine ⟨hw x, ht _ _ _ ?_⟩
    rw [if_pos rfl]
    refine hs i x ys[i] H' hx (List.getElem?_eq_getElem hi) s1 _ fun H4 s4 => ⟨_, s4 _ _ hD, ?_, same_mut (s1.trans s4) nD, ?_⟩
    · rw [List.length_take]
      omega
    · rw [upd_same, List.take_add_one, List.getElem?_eq_getElem hi]
      rfl
  have h0 : ∀ D, H D = none → Same H (upd H D (.lst [])) ∧ (upd H D (.lst [])) D = some (.lst (ys.take 0)) := fun D nD => ⟨same_upd nD, by rw [upd_same, List.take_zero]⟩
  have hq : ∀ D H', H D = none → Same H H' ∧ H' D = some (.lst (ys.take xs.length)) → Q (.ref D) H' := fun D H' nD ⟨s1, h1⟩ => hd D H' s1 nD (by rw [h1, hl, List.take_length])
  rcases hr with hr | hr
  · exact .inl ⟨_, hv, a, rfl, ⟨_, hr⟩, fun D nD => L2.lc_list (K := K) (a := a) (xs := xs) (fun i H' => Same H H' ∧ H' D = some (.lst (ys.take i))) (h0 D nD) (fun i H' _ p => p.1.seq hr) (fun i x H' hx p => st D i x H' nD hx p) (fun H' p => hq D H' nD p)⟩
  · exact .inr ⟨_, hv, a, rfl, ⟨_, hr⟩, fun D nD => L2.lc_tup (K := K) (a := a) (xs := xs) (fun i H' => Same H H' ∧ H' D = some (.lst (ys.take i))) (h0 D nD) (fun i H' _ p => sameT p.1 hr) (fun i x H' hx p => st D i x H' nD hx p) (fun H' p => hq D H' nD p)⟩
/-- the letter of a code -/
def lV (c : Nat) : V := .str (tx [c])
end BK

namespace BK
open PySem PySem.Spec PyProof.Rows L2

/-! ## defs that ask for a repr: known is that no repr is under way around them -/
structure FnG (P : Program) (w : World) (K : PySem.W.Frag) (mg : Str → Option Value) (base : Heap) (C : CXT) (k : Nat) (f : Addr) (fd : FuncData) (ps : List Str) (sp : Sp) : Prop where
  ln : ∀ vs H Q E, sp vs H Q E → vs.length = ps.length
  go : ∀ (A : Around) (out : List Env) (s : Shared) (H : Hp) (ar : Args) (us : List Value) (vs : List V) (Q : VK) (E : XK), A.guards = some [] → Room k A → Env0 P w K mg base A out s H →
    BindsTo s fd ar (ps.zip us) → Vals vs us → sp vs H Q E → codeAny (model P w) A (.call (.ref f) ar) (CR C out P w H s Q E) s
section
variable {P : Program} {w : World} {K : PySem.W.Frag} {mg : Str → Option Value} {base : Heap} {C : CXT} {k : Nat} {f : Addr} {fd : FuncData} {ps : List Str} {sp : Sp}
theorem FnG.up {j : Nat} (F : FnG P w K mg base C j f fd ps sp) (h : j ≤ k) : FnG P w K mg base C k f fd ps sp :=
  ⟨F.ln, fun A out s H ar us vs Q E hg hr => F.go A out s H ar us vs Q E hg (hr.mono h)⟩
/-- its body keeps the promise -/
theorem fnG_of {nm ql : Str} {pa : Arguments} {bd : List Stmt} {sc : Scope} {dv kv dc pm cv ct oc : Value} {an od : Option Addr} {sl : Array (Option Value)} {N : List Str}
    (lk : K.lookup f = some ⟨oc, od, .func (PySem.W.fnOf nm ql pa bd sc dv kv dc pm an cv ct), sl⟩) (hc : PySem.W.codeIn K cv ql = true) (S : FnScope N ps sc) (ln : ∀ vs H Q E, sp vs H Q E → vs.length = ps.length)
    (hb : ∀ (A : Around) (out : List Env) (s : Shared) (H : Hp) (vs : List V) (Q : VK) (E : XK), A.guards = some [] → Room k (A.deeper (envOfC ql sc s.heap.objs.size f cv)) → sp vs H Q E →
      ∃ t, PSs (cxOf C P w K mg base N ql sc f cv A out s H E) bd t ∧ t { nx := fun _ H' => Q .non H', rt := Q } (start N vs) H) :
    FnG P w K mg base C (k + 1) f (PySem.W.fnOf nm ql pa bd sc dv kv dc pm an cv ct) ps sp := by
  refine ⟨ln, ?_⟩
  intro A out s H ar us vs Q E hg hr e0 hbd r hsp
  have hlen := ln _ _ _ _ hsp
  have hK : K.In s.heap := e0.mod.kin.keeps (fun b o e => (e0.bs b o e).1)
  have hlim : s.heap.NoLimit := e0.mod.nolimit.keeps (fun b o e => (e0.bs b o e).1)
  have hki : ∀ z ∈ ps.zip us, sc.names.lookup z.1 = some .local ∨ (sc.names.lookup z.1 = some .cell ∧ ((cellsFrom (s.heap.objs.size + 1) sc.names []).lookup z.1).isSome = true) := by
    rintro ⟨n, v⟩ hz
    rcases S.par n (List.of_mem_zip hz).1 with h | h
    · exact Or.inl h
    · exact Or.inr ⟨h, PySem.W.cellsFrom_some _ _ _ (Or.inl h)⟩
  refine codeAny_call_function hr.depth (hK _ _ lk) rfl S.co S.gen rfl (PySem.W.codeRec_of hK hc) (hbd _ _ _ _ ?_)
  refine wpAny_newFunctionEnv_cells S.kind hki (fun en hen sB xi => ?_)
  subst hen
  refine ⟨hlim.keeps xi.toInCall.keep, codeAny_func ?_⟩
  obtain ⟨t, ht, hq⟩ := hb A out s H vs Q E hg (hr.deeper _) hsp
  have J0 : Inv (cxOf C P w K mg base N ql sc f cv A out s H E) [] (start N vs) H sB := inv_start S hr.hd e0 hlen r xi
  refine wpAny_mono (ht.run [] sB (start N vs) H _ J0 hq) (fun fl sE hE => ?_) (fun e sE hE => hE)
  cases fl with
  | ret u =>
    obtain ⟨v, τ, HE, J, rv, q⟩ := hE
    exact ⟨v, HE, J.os, J.bare, J.base, J.hok, rv, q⟩
  | next =>
    obtain ⟨τ, HE, J, q⟩ := hE
    exact ⟨V.non, HE, J.os, J.bare, J.base, J.hok, (rfl : RelV .non Value.none), q⟩
  | brk => exact hE.elim fun _ z => z.elim fun _ z => z.2.elim
  | cont => exact hE.elim fun _ z => z.elim fun _ z => z.2.elim
end
section
variable {P : Program} {w : World} {K : PySem.W.Frag} {mg : Str → Option Value} {base : Heap}
theorem funG {x ql : Str} {st : Stmt} {f : Addr} {fd : FuncData} {N ps : List Str} {k : Nat} {sp : Sp} (F : Fun K x ql st f fd) (S : FnScope N ps (defScope st)) (ln : ∀ vs H Q E, sp vs H Q E → vs.length = ps.length)
    (hb : ∀ (cv : Value) (A : Around) (out : List Env) (s : Shared) (H : Hp) (vs : List V) (Q : VK) (E : XK), A.guards = some [] → Room k (A.deeper (envOfC ql (defScope st) s.heap.objs.size f cv)) → sp vs H Q E →
      ∃ t, PSs (cxOf CX0 P w K mg base N ql (defScope st) f cv A out s H E).nox (defBody st) t ∧ t { nx := fun _ H' => Q .non H', rt := Q } (start N vs) H) : FnG P w K mg base CX0 (k + 1) f fd ps sp := by
  obtain ⟨oc, od, kv, dc, pm, an, cv, ct, sl, rfl, lk, hc⟩ := F.ex
  exact fnG_of lk hc S ln fun A out s H vs Q E hg hr hsp => let ⟨t, h, q⟩ := hb cv A out s H vs Q E hg hr hsp; ⟨t, h.nox, q⟩
end
section
variable {X : Cx} {C : CXT} {k : Nat} {f : Addr} {fd : FuncData} {ps : List Str} {sp : Sp} {dvs : List V} {ds : List Value} {E : XK} {x : Str} {p pos : Pos} {e : Expr} {es : List Expr} {t : TA}
theorem run_G {pins : List (Addr × Obj)} {σ : L2.St} {H : Hp} {s : Shared} {Q : VK} {us : List Value} {vs : List V} (F : FnG X.prog X.w X.K X.mg X.base C k f fd ps sp) (hg : X.A.guards = some []) (hr : Room k X.A) (hb : Binds X.K fd ps ds) (hd : Vals dvs ds) (hx : Passes C X E)
    (I : L2.Inv X pins σ H s) (r : Vals vs us) (h : sp (vs ++ dvs) H Q E) : wpAny (model X.prog X.w) X.A (call (.ref f) us) (EP X pins σ Q) X.xe s := by
  have rr : Vals (vs ++ dvs) (us ++ ds) := r.append hd
  have hl : (us ++ ds).length = ps.length := rr.length.symm.trans (F.ln _ _ _ _ h)
  refine wpAny_call (codeAny_mono (F.go X.A X.stack s H ⟨us, []⟩ (us ++ ds) (vs ++ dvs) Q E hg hr I.env0 (hb s us I.kIn hl) rr h) (fun r sE hE => ?_))
  match r, hE with
  | .error e, hE => exact hx pins σ H s e sE I hE
  | .ok (.ret u), hE => exact I.after hE
theorem pe_callG (F : FnG X.prog X.w X.K X.mg X.base C k f fd ps sp) (hg : X.A.guards = some []) (hr : Room k X.A) (hgl : Gl X x) (hm : X.mg x = some (.ref f)) (hk : PySem.W.keepIn X.K (.ref f) = true) (hb : Binds X.K fd ps ds) (hd : Vals dvs ds) (hx : Passes C X E)
    (ha : PA X (e :: es) t) (hdb : (x == ("__debug__" : Str)) = false := by decide) (he : starEach (e :: es) X.env = (false, eval e X.env) :: starEach es X.env := by rfl) (hpl : (backTo pos (starEach es X.env)).any (·.1) = false := by rfl) :
    PE X (.Call (.Name x p) (e :: es) [] pos) (tCall sp dvs E t) := by
  constructor
  intro pins s σ H Q I h
  refine wpAny_Call_Name_kw (ld_glob I hgl hm ?_ hdb)
  exact PySem.W.callWith_K (h₀ := X.base) I.ok.mod.kin hk (thn (ha.run pos pins s σ H _ I h) (fun us sB ⟨vs, HB, J, r, q⟩ => ⟨J.kIn, run_G F hg hr hb hd hx J r q⟩)) he hpl
end

/-! ## the law's promise at the heap behind the top -/
/-- the modules' dict stands in the ground -/
def Mods (b : Heap) : Prop := ∃ mm, b.Ns sysModules mm
/-- a law that may ask for reprs, from what its def promises -/
theorem law_G {P : Program} {w : World} {K : PySem.W.Frag} {mg mb : Str → Option Value} {C : CXT} {k : Nat} {fa a : Addr} {fd : FuncData} {x : Str} {sp : Sp} {s : Shared} {vs : List Value} {ns : List Int}
    (KX : K.In s.heap) (hmod : Mods s.heap) (hns : s.heap.Ns mainGlobals mg) (hb : s.heap.Ns builtinsNs mb) (hbb : ∀ x : Str, x ≠ "__name__" → mb x = bootBuiltins x) (hlim : s.heap.NoLimit) (hgen : s.gens = #[])
    (ha : s.heap.get? a = some { cls := .type "list", data := .seq vs.toArray }) (hi : IntsAre vs ns) (hl : ns.length ≤ sizeLine) (hr : Room k callerA)
    (F : ∀ b : Heap, K.In b → b.Ns mainGlobals mg → Mods b → FnG P w K mg b C k fa fd [x] sp) (hbind : ∀ (s : Shared) (u : Value), BindsTo s fd ⟨[u], []⟩ [(x, u)])
    (hsp : ∀ H : Hp, Only H → SqL K H a (ns.map V.int) → sp [.ref a] H (fun v _ => v = .bl true) fun _ _ _ => False)
    (hC : ∀ H e s', C [] H s (fun _ _ _ => False) e s' → False) :
    codeAny (model P w) callerA (.call (.ref fa) ⟨[.ref a], []⟩) (fun r s' => r = .ok (.ret (.bool true)) ∧ OldK s.heap s'.heap ∧ s'.os = s.os ∧ AllBare s'.gens) s := by
  have rv := vals_ints hi
  have lv := hi.length
  -- H tracks nothing, or the script alone
  suffices core : ∀ H : Hp, Only H → SqL K H a (ns.map V.int) → HOk P w H s.heap → (∀ b, H b ≠ none → b = a) → (H a ≠ none → K.lookup a = none) →
      codeAny (model P w) callerA (.call (.ref fa) ⟨[.ref a], []⟩) (fun r s' => r = .ok (.ret (.bool true)) ∧ OldK s.heap s'.heap ∧ s'.os = s.os ∧ AllBare s'.gens) s by
    cases hk : K.lookup a with
    | some o =>
      have e := (KX a o hk).symm.trans ha
      cases e
      exact core (fun _ => none) (fun _ => .inl rfl) (.inr ⟨_, vs.toArray, _, hk, rfl, rfl, rfl, by rw [List.size_toArray, lv]; exact hl, by simpa using rv⟩) (fun b u z => nomatch z) (fun b z => absurd rfl z) (fun z => absurd rfl z)
    | none =>
      let o : HO := .frz { cls := .type "list", data := .seq vs.toArray } (.lst (ns.map V.int))
      have at_a : ∀ {b u}, upd (fun _ => none) a o b = some u → b = a ∧ u = o := fun {b u} z => by
        by_cases hba : b = a
        · subst hba
          rw [upd_same] at z
          exact ⟨rfl, (Option.some.inj z).symm⟩
        · rw [upd_ne hba] at z
          exact nomatch z
      have uo : upd (fun _ => none) a o a = some (.frz { cls := .type "list", data := .seq vs.toArray } (.lst (ns.map V.int))) := upd_same
      refine core (upd (fun _ => none) a o) (fun b => ?_) (.inl (.inr ⟨_, uo⟩)) (fun b u z => ?_) (fun b z => ?_) (fun _ => hk)
      · by_cases hba : b = a
        · subst hba
          exact Or.inr ⟨_, _, uo⟩
        · exact .inl (upd_ne hba)
      · obtain ⟨rfl, rfl⟩ := at_a z
        exact ⟨ha, by rw [List.length_map]; exact hl, vs, _, rv, ha⟩
      · cases q : upd (fun _ => none) a o b with
        | none => exact absurd q z
        | some u => exact (at_a q).1
  intro H hO hS hok hA hKa
  have low : ∀ {b : Addr} {o : Obj}, s.heap.get? b = some o → (H b ≠ none → False) → (hidT s.heap H).get? b = some o := fun {b o} e n => by
    refine hidT_get e ?_
    cases q : H b with
    | none => rfl
    | some u => exact (n (by rw [q]; exact nofun)).elim
  have nsK : ∀ {b : Addr} {m : Str → Option Value}, s.heap.Ns b m → (hidT s.heap H).Ns b m := by
    rintro b m ⟨o, es, ep, e, d, r⟩
    refine ⟨o, es, ep, low e (fun n => ?_), d, r⟩
    have eb := hA b n
    subst eb
    have eo := e.symm.trans ha
    cases eo
    cases (show Data.seq vs.toArray _ = Data.dict es ep from d)
  have hKb : K.In (hidT s.heap H) := fun b o e => low (KX b o e) (fun n => by
    have eb := hA b n
    subst eb
    rw [hKa n] at e
    cases e)
  obtain ⟨mc, hm1, hm2⟩ := hlim
  have hM : Mod K mg (hidT s.heap H) := ⟨hKb, nsK hns, ⟨mb, nsK hb, hbb⟩, mc, nsK hm1, hm2⟩
  have e0 : Env0 P w K mg (hidT s.heap H) callerA [] s H := ⟨rfl, hM, fun b o e => of_hidT e, Nat.le_of_eq (hidT_size _ _), trivial, fun b hb => (List.not_mem_nil hb).elim, hok, .of_eq hgen⟩
  refine codeAny_mono ((F _ hKb (nsK hns) (hmod.imp fun mm h => nsK h)).go callerA [] s H ⟨[.ref a], []⟩ [.ref a] [.ref a] _ _ rfl hr e0 (hbind s (.ref a)) (.cons rfl .nil) (hsp H hO hS)) (fun r s' h => ?_)
  match r, h with
  | .error e, h => exact (hC H e s' h).elim
  | .ok (.ret u), h =>
    obtain ⟨v, HE, os, bare, un, hokE, rr, q⟩ := h
    obtain rfl : v = .bl true := q
    obtain rfl : u = Value.bool true := rr
    refine ⟨rfl, OldK.of_keep (fun b o e => ?_), os, bare⟩
    rcases hO b with z | ⟨ob, xs, z⟩
    · exact un.keep b o e z (fun z => (List.not_mem_nil z).elim) (fun z => (List.not_mem_nil z).elim)
    · have e1 := (hok b _ z).1
      have e2 := (hokE b _ (un.frzs b ob _ z)).1
      rw [e] at e1
      cases e1
      exact e2
theorem walk_G {l : PySem.W.OpenLaw} {n k : Nat} {q : Program} {lo : List Str} {XP : (Str → Option Value) → Heap → Prop} {YP : World → Heap → Prop} {d : DefRec} {K : Params → PySem.W.Frag} {C : World → CXT} {sp : World → Sp} {x : Str}
    (hn : l.most = some n) (hz : n ≤ sizeLine) (hi : PyProof.Rows.importsNone q = true) (hdf : d.params.defaults = []) (hr : Room k callerA) (hY : ∀ (w : World) (h : Heap), YP w h → (K w.params).In h)
    (F : ∀ (w : World) (mg : Str → Option Value) (fa : Addr) (h : Heap), (K w.params).In h → h.Ns mainGlobals mg → mg d.name = some (.ref fa) →
      ∃ fd : FuncData, (∀ (s : Shared) (u : Value), BindsTo s fd ⟨[u], []⟩ [(x, u)]) ∧ ∀ b : Heap, (K w.params).In b → b.Ns mainGlobals mg → Mods b → FnG l.prog w (K w.params) mg b (C w) k fa fd [x] (sp w))
    (hsp : ∀ (w : World) (H : Hp) (a : Addr) (ns : List Int), ns.length ≤ n → Only H → SqL (K w.params) H a (ns.map V.int) → sp w [.ref a] H (fun v _ => v = .bl true) fun _ _ _ => False)
    (hC : ∀ (w : World) (H : Hp) (s : Shared) (e : Value) (s' : Shared), C w [] H s (fun _ _ _ => False) e s' → False) :
    PySem.W.WalkO q lo XP YP l.row.toRowW d [] (fun f vs => PySem.call f vs) := by
  refine Att.attach_call hn hdf ?_
  intro w s0 s1 mg mb fa o pm cd doc a vs ns G Y ho hd hcd hmg hob hin hle hgn
  obtain ⟨fd, hb, hF⟩ := F w mg fa _ (hY w _ Y) G.T.g hmg
  exact law_G (hY w _ Y) ((G.T.seer hi).mods.imp fun _ h => h.1) G.T.g G.T.b G.T.builtins G.T.nolimit hgn hob hin (Nat.le_trans hle hz) hr hF hb (fun H hO hS => hsp w H a ns hle hO hS) (fun H e s' => hC w H s1 e s')
end BK

namespace BK
open PySem PySem.Spec PyProof.Rows L2

/-! ## reprs of handed things -/
mutual
def Dt.py : Dt → PyData
  | .non => .none
  | .bl b => .bool b
  | .int i => .int i
  | .str w => .str (tx w)
  | .lst ds => .list (pyAll ds)
  | .tup ds => .tuple (pyAll ds)
  | .dic => .dict []
def pyAll : List Dt → List PyData
  | [] => []
  | d :: ds => d.py :: pyAll ds
end
mutual
/-- what has a short repr; no dict within -/
def Fits : Dt → Prop
  | .non => True
  | .bl _ => True
  | .int i => i.natAbs < 10 ^ 47
  | .str w => ∀ c ∈ w, c < 4294967296
  | .lst ds => FitsAll ds
  | .tup ds => FitsAll ds
  | .dic => False
def FitsAll : List Dt → Prop
  | [] => True
  | d :: ds => Fits d ∧ FitsAll ds
end
mutual
def deep : Dt → Nat
  | .lst ds => deepAll ds + 1
  | .tup ds => deepAll ds + 1
  | .dic => 1
  | _ => 0
def deepAll : List Dt → Nat
  | [] => 0
  | d :: ds => max (deep d) (deepAll ds)
end
mutual
def bulk : Dt → Nat
  | .str w => w.length
  | .lst ds => bulkAll ds
  | .tup ds => bulkAll ds
  | _ => 0
def bulkAll : List Dt → Nat
  | [] => 0
  | d :: ds => bulk d + 1 + bulkAll ds
end
theorem fitsAll_of : ∀ {ds : List Dt}, (∀ d ∈ ds, Fits d) → FitsAll ds
  | [], _ => by unfold FitsAll; trivial
  | d :: ds, h => by unfold FitsAll; exact ⟨h d (List.mem_cons_self ..), fitsAll_of fun x hx => h x (List.mem_cons_of_mem _ hx)⟩
theorem deepAll_le {n : Nat} : ∀ {ds : List Dt}, (∀ d ∈ ds, deep d ≤ n) → deepAll ds ≤ n
  | [], _ => by unfold deepAll; exact Nat.zero_le _
  | d :: ds, h => by
    unfold deepAll
    have h1 := h d (List.mem_cons_self ..)
    have h2 := deepAll_le (n := n) (ds := ds) fun x hx => h x (List.mem_cons_of_mem _ hx)
    omega
theorem bulkAll_le {n : Nat} : ∀ {ds : List Dt}, (∀ d ∈ ds, bulk d ≤ n) → bulkAll ds ≤ ds.length * (n + 1)
  | [], _ => by unfold bulkAll; exact Nat.zero_le _
  | d :: ds, h => by
    unfold bulkAll
    have h1 := h d (List.mem_cons_self ..)
    have h2 := bulkAll_le (n := n) (ds := ds) fun x hx => h x (List.mem_cons_of_mem _ hx)
    rw [List.length_cons, Nat.add_mul, Nat.one_mul]
    omega
mutual
theorem depth_py : ∀ d : Dt, d.py.depth = deep d
  | .non => by simp only [Dt.py, PyData.depth, deep]
  | .bl _ => by simp only [Dt.py, PyData.depth, deep]
  | .int _ => by simp only [Dt.py, PyData.depth, deep]
  | .str _ => by simp only [Dt.py, PyData.depth, deep]
  | .lst ds => by simp only [Dt.py, PyData.depth, deep, depth_all ds]
  | .tup ds => by simp only [Dt.py, PyData.depth, deep, depth_all ds]
  | .dic => by simp only [Dt.py, PyData.depth, PyData.depthKv, deep]
theorem depth_all : ∀ ds : List Dt, PyData.depthAll (pyAll ds) = deepAll ds
  | [] => by simp only [pyAll, PyData.depthAll, deepAll]
  | d :: ds => by simp only [pyAll, PyData.depthAll, deepAll, depth_py d, depth_all ds]
end
mutual
theorem bulk_py : ∀ d : Dt, d.py.bulk = bulk d
  | .non => by simp only [Dt.py, PyData.bulk, bulk]
  | .bl _ => by simp only [Dt.py, PyData.bulk, bulk]
  | .int _ => by simp only [Dt.py, PyData.bulk, bulk]
  | .str w => by simp only [Dt.py, PyData.bulk, bulk, tx, List.size_toArray]
  | .lst ds => by simp only [Dt.py, PyData.bulk, bulk, bulk_all ds]
  | .tup ds => by simp only [Dt.py, PyData.bulk, bulk, bulk_all ds]
  | .dic => by simp only [Dt.py, PyData.bulk, PyData.bulkKv, bulk]
theorem bulk_all : ∀ ds : List Dt, PyData.bulkAll (pyAll ds) = bulkAll ds
  | [] => by simp only [pyAll, PyData.bulkAll, bulkAll]
  | d :: ds => by simp only [pyAll, PyData.bulkAll, bulkAll, bulk_py d, bulk_all ds]
end
theorem int48 {i : Int} (h : i.natAbs < 10 ^ 47) : (PyData.shown (.int i)).length ≤ 48 := by
  show (Str.ofString (toString i)).length ≤ 48
  rw [PySem.ofString_length]
  exact int_text_length_le10 (k := 47) (by decide) h
theorem int_log {i : Int} (h : i.natAbs < 10 ^ 47) : i.natAbs.log2 < 1920 := by
  have h2 : i.natAbs < 2 ^ 160 := Nat.lt_of_lt_of_le h (by decide)
  by_cases h0 : i.natAbs = 0
  · rw [h0]
    decide
  · have := (Nat.log2_lt h0).mpr h2
    omega
mutual
theorem fits_short : ∀ d : Dt, Fits d → d.py.leavesShort 48 = true
  | .non, _ => by simp only [Dt.py, PyData.leavesShort]
  | .bl _, _ => by simp only [Dt.py, PyData.leavesShort]
  | .int i, h => by
    unfold Fits at h
    simp only [Dt.py, PyData.leavesShort, decide_eq_true_eq]
    exact int48 h
  | .str w, h => by
    unfold Fits at h
    simp only [Dt.py, PyData.leavesShort, tx_cps, List.all_eq_true, decide_eq_true_eq]
    exact fun c hc => h c hc
  | .lst ds, h => by
    unfold Fits at h
    simp only [Dt.py, PyData.leavesShort]
    exact fitsAll_short ds h
  | .tup ds, h => by
    unfold Fits at h
    simp only [Dt.py, PyData.leavesShort]
    exact fitsAll_short ds h
  | .dic, h => by unfold Fits at h; exact h.elim
theorem fitsAll_short : ∀ ds : List Dt, FitsAll ds → PyData.leavesShortAll 48 (pyAll ds) = true
  | [], _ => by simp only [pyAll, PyData.leavesShortAll]
  | d :: ds, h => by
    unfold FitsAll at h
    simp only [pyAll, PyData.leavesShortAll, Bool.and_eq_true]
    exact ⟨fits_short d h.1, fitsAll_short ds h.2⟩
end
mutual
theorem fits_show : ∀ d : Dt, Fits d → d.py.showable = true ∧ d.py.hasDict = false
  | .non, _ => by simp only [Dt.py, PyData.showable, PyData.hasDict, and_self]
  | .bl _, _ => by simp only [Dt.py, PyData.showable, PyData.hasDict, and_self]
  | .int i, h => by
    unfold Fits at h
    simp only [Dt.py, PyData.showable, PyData.hasDict, decide_eq_true_eq, and_true]
    exact int_log h
  | .str w, h => by simp only [Dt.py, PyData.showable, PyData.hasDict, and_self]
  | .lst ds, h => by
    unfold Fits at h
    simp only [Dt.py, PyData.showable, PyData.hasDict]
    exact fitsAll_show ds h
  | .tup ds, h => by
    unfold Fits at h
    simp only [Dt.py, PyData.showable, PyData.hasDict]
    exact fitsAll_show ds h
  | .dic, h => by unfold Fits at h; exact h.elim
theorem fitsAll_show : ∀ ds : List Dt, FitsAll ds → PyData.showableAll (pyAll ds) = true ∧ PyData.hasDictAll (pyAll ds) = false
  | [], _ => by simp only [pyAll, PyData.showableAll, PyData.hasDictAll, and_self]
  | d :: ds, h => by
    unfold FitsAll at h
    have h1 := fits_show d h.1
    have h2 := fitsAll_show ds h.2
    simp only [pyAll, PyData.showableAll, PyData.hasDictAll, h1.1, h1.2, h2.1, h2.2, Bool.and_self, Bool.or_self, and_self]
end
section
variable {X : Cx} {pins : List (Addr × Obj)} {σ : L2.St} {H : Hp} {s : Shared}
mutual
theorem reads_at (I : L2.Inv X pins σ H s) : ∀ (d : Dt) (v : V) (u : Value), At X.K H v d → RelV v u → Fits d → ∃ as, Reads s.heap u d.py as
  | .non, v, u, h, r, _ => by
    unfold At at h
    subst h
    cases (show u = Value.none from r)
    simp only [Dt.py]
    exact ⟨_, .none⟩
  | .bl b, v, u, h, r, _ => by
    unfold At at h
    subst h
    cases (show u = Value.bool b from r)
    simp only [Dt.py]
    exact ⟨_, .bool b⟩
  | .int i, v, u, h, r, _ => by
    unfold At at h
    subst h
    obtain ⟨t, rfl⟩ := r
    simp only [Dt.py]
    exact ⟨_, .int i t⟩
  | .str w, v, u, h, r, _ => by
    unfold At at h
    obtain ⟨rfl, _⟩ := h
    obtain ⟨t, rfl⟩ := r
    simp only [Dt.py]
    exact ⟨_, .str _ t⟩
  | .lst ds, v, u, h, r, f => by
    unfold At at h
    unfold Fits at f
    obtain ⟨a, xs, rfl, h1, h2⟩ := h
    cases (show u = Value.ref a from r)
    obtain ⟨its, rv, ⟨o, n, e1, e2, _, e3⟩, _⟩ := I.list h1
    obtain ⟨as, k⟩ := reads_ats I ds xs its h2 rv f
    simp only [Dt.py]
    exact ⟨_, .list e1 e2 e3 (by rw [List.toList_toArray]; exact k)⟩
  | .tup ds, v, u, h, r, f => by
    unfold At at h
    unfold Fits at f
    obtain ⟨a, xs, rfl, h1, h2⟩ := h
    cases (show u = Value.ref a from r)
    obtain ⟨its, rv, ⟨o, e1, e2, n, e3⟩, _⟩ := I.tuple h1
    obtain ⟨as, k⟩ := reads_ats I ds xs its h2 rv f
    simp only [Dt.py]
    exact ⟨_, .tuple e1 e2 e3 (by rw [List.toList_toArray]; exact k)⟩
  | .dic, v, u, h, r, f => by unfold Fits at f; exact f.elim
theorem reads_ats (I : L2.Inv X pins σ H s) : ∀ (ds : List Dt) (vs : List V) (us : List Value), Ats X.K H vs ds → Vals vs us → FitsAll ds → ∃ as, ReadsAll s.heap us (pyAll ds) as
  | [], vs, us, h, r, _ => by
    unfold Ats at h
    subst h
    cases r
    simp only [pyAll]
    exact ⟨_, .nil⟩
  | d :: ds, vs, us, h, r, f => by
    unfold Ats at h
    unfold FitsAll at f
    obtain ⟨v, ws, rfl, h1, h2⟩ := h
    cases r with
    | cons r1 r2 =>
      obtain ⟨a1, k1⟩ := reads_at I d v _ h1 r1 f.1
      obtain ⟨a2, k2⟩ := reads_ats I ds ws _ h2 r2 f.2
      simp only [pyAll]
      exact ⟨_, .cons k1 k2⟩
end
end
/-- a thing's repr -/
def shw (d : Dt) : Str := d.py.shown
def Neat (d : Dt) : Prop := Fits d ∧ deep d ≤ 60 ∧ bulk d ≤ 300000
theorem neat_size {d : Dt} (h : Neat d) : (shw d).length ≤ sizeLine := by
  have h1 := PyData.shown_le_bulk 48 (by decide) d.py (fits_short d h.1)
  rw [bulk_py] at h1
  have h2 : (48 + 2) * bulk d ≤ 50 * 300000 := Nat.mul_le_mul (Nat.le_refl _) h.2.2
  have h3 : sizeLine = 16777216 := by decide
  unfold shw
  omega
def rRepr (K : PySem.W.Frag) : List V → Hp → VK → Prop := fun xs H Q => ∃ (p : Addr) (d : Dt), xs = [.ref p] ∧ At K H (.ref p) d ∧ Neat d ∧ Q (.str (shw d)) H
theorem call_reprG {X : Cx} (hg : X.A.guards = some []) (hu : X.A.units + 64 < cLine) : CallR X (.builtin "repr") (rRepr X.K) := by
  intro pins s σ H xs us Q I r h
  obtain ⟨p, d, rfl, hat, hn, q⟩ := h
  obtain ⟨u, rfl, rp⟩ := vals1 r
  cases (show u = Value.ref p from rp)
  obtain ⟨as, rd⟩ := reads_at I d _ _ hat rfl hn.1
  have hs := fits_show d hn.1
  refine repr_of_reads' rd hs.1 (fun z => absurd z (by rw [hs.2]; exact Bool.false_ne_true)) hg (by rw [depth_py]; have := hn.2.1; omega) (fun _ _ e => e) (fun h' t tk hk => ?_) (neat_size hn)
  exact ⟨.str (shw d), H, I.kept (t' := tk) (fun b o e => hk b o e), ⟨t, rfl⟩, q⟩
end BK

namespace BK
open PySem PySem.Spec PyProof.Rows L2

/-! ## things, lists and tuples not told apart -/
mutual
def norm : Dt → Dt
  | .lst ds => .lst (normAll ds)
  | .tup ds => .lst (normAll ds)
  | .non => .non
  | .bl b => .bl b
  | .int i => .int i
  | .str w => .str w
  | .dic => .dic
def normAll : List Dt → List Dt
  | [] => []
  | d :: ds => norm d :: normAll ds
end
theorem normAll_map : ∀ ds : List Dt, normAll ds = ds.map norm
  | [] => by simp only [normAll, List.map_nil]
  | d :: ds => by simp only [normAll, List.map_cons, normAll_map ds]
mutual
theorem norm_norm : ∀ d : Dt, norm (norm d) = norm d
  | .lst ds => by simp only [norm, normAll_normAll ds]
  | .tup ds => by simp only [norm, normAll_normAll ds]
  | .non => by simp only [norm]
  | .bl b => by simp only [norm]
  | .int i => by simp only [norm]
  | .str w => by simp only [norm]
  | .dic => by simp only [norm]
theorem normAll_normAll : ∀ ds : List Dt, normAll (normAll ds) = normAll ds
  | [] => by simp only [normAll]
  | d :: ds => by simp only [normAll, norm_norm d, normAll_normAll ds]
end
theorem row_norm (d : Dt) : isRow (norm d) = isRow d := by cases d <;> simp only [norm, isRow]
theorem items_norm (d : Dt) : (norm d).items = d.items.map norm := by cases d <;> simp only [norm, Dt.items, normAll_map, List.map_nil]
theorem whole_norm (d : Dt) (lo : Int) : isWhole (norm d) lo = isWhole d lo := by cases d <;> simp only [norm, isWhole]
theorem within_norm (d : Dt) (lo hi : Int) : isWithin (norm d) lo hi = isWithin d lo hi := by cases d <;> simp only [norm, isWithin]
theorem word_norm (d : Dt) : isWord (norm d) = isWord d := by cases d <;> simp only [norm, isWord]
theorem plain_norm (d : Dt) : isPlain (norm d) = isPlain d := by cases d <;> simp only [norm, isPlain]
theorem piece_norm (d : Dt) : isPiece (norm d) = isPiece d := by
  unfold isPiece
  rw [row_norm, items_norm]
  congr 1
  match d.items with
  | [] => rfl
  | [a] => rfl
  | [a, b] =>
    show (isWord (norm a) && isWhole (norm b) 1) = (isWord a && isWhole b 1)
    rw [word_norm, whole_norm]
  | a :: b :: c :: r => rfl
theorem pcOf_norm (d : Dt) : pcOf (norm d) = pcOf d := by
  unfold pcOf
  rw [items_norm]
  match d.items with
  | [] => rfl
  | [a] => cases a <;> simp only [norm, List.map_cons, List.map_nil]
  | [a, b] => cases a <;> cases b <;> simp only [norm, List.map_cons, List.map_nil]
  | a :: b :: c :: r => cases a <;> cases b <;> simp only [norm, List.map_cons]
theorem pieceSize_norm (d : Dt) : pieceSize (norm d) = pieceSize d := by
  unfold pieceSize
  rw [items_norm]
  match d.items with
  | [] => rfl
  | [a] => cases a <;> simp only [norm, List.map_cons, List.map_nil]
  | [a, b] => cases a <;> cases b <;> simp only [norm, List.map_cons, List.map_nil]
  | a :: b :: c :: r => cases a <;> cases b <;> simp only [norm, List.map_cons]
theorem isText_norm (d : Dt) : isText (norm d) = isText d := by
  unfold isText
  rw [row_norm, items_norm, List.length_map, List.all_map, List.map_map]
  have e1 : (isPiece ∘ norm) = isPiece := funext piece_norm
  have e2 : (pieceSize ∘ norm) = pieceSize := funext pieceSize_norm
  rw [e1, e2]
theorem pcs_norm (d : Dt) : pcs (norm d) = pcs d := by
  unfold pcs
  rw [items_norm, List.map_map, show (pcOf ∘ norm) = pcOf from funext pcOf_norm]
theorem isText_like {d e : Dt} (h : norm e = norm d) : isText e = isText d := by rw [← isText_norm, h, isText_norm]
theorem pcs_like {d e : Dt} (h : norm e = norm d) : pcs e = pcs d := by rw [← pcs_norm, h, pcs_norm]
mutual
theorem fits_norm : ∀ d : Dt, Fits (norm d) = Fits d
  | .lst ds => by simp only [norm, Fits, fitsAll_norm ds]
  | .tup ds => by simp only [norm, Fits, fitsAll_norm ds]
  | .non => by simp only [norm]
  | .bl b => by simp only [norm]
  | .int i => by simp only [norm]
  | .str w => by simp only [norm]
  | .dic => by simp only [norm]
theorem fitsAll_norm : ∀ ds : List Dt, FitsAll (normAll ds) = FitsAll ds
  | [] => by simp only [normAll]
  | d :: ds => by simp only [normAll, FitsAll, fits_norm d, fitsAll_norm ds]
end
mutual
theorem deep_norm : ∀ d : Dt, deep (norm d) = deep d
  | .lst ds => by simp only [norm, deep, deepAll_norm ds]
  | .tup ds => by simp only [norm, deep, deepAll_norm ds]
  | .non => by simp only [norm]
  | .bl b => by simp only [norm]
  | .int i => by simp only [norm]
  | .str w => by simp only [norm]
  | .dic => by simp only [norm]
theorem deepAll_norm : ∀ ds : List Dt, deepAll (normAll ds) = deepAll ds
  | [] => by simp only [normAll]
  | d :: ds => by simp only [normAll, deepAll, deep_norm d, deepAll_norm ds]
end
mutual
theorem bulk_norm : ∀ d : Dt, bulk (norm d) = bulk d
  | .lst ds => by simp only [norm, bulk, bulkAll_norm ds]
  | .tup ds => by simp only [norm, bulk, bulkAll_norm ds]
  | .non => by simp only [norm]
  | .bl b => by simp only [norm]
  | .int i => by simp only [norm]
  | .str w => by simp only [norm]
  | .dic => by simp only [norm]
theorem bulkAll_norm : ∀ ds : List Dt, bulkAll (normAll ds) = bulkAll ds
  | [] => by simp only [normAll]
  | d :: ds => by simp only [normAll, bulkAll, bulk_norm d, bulkAll_norm ds]
end
theorem neat_like {d e : Dt} (h : norm e = norm d) (n : Neat d) : Neat e := by
  refine ⟨?_, ?_, ?_⟩
  · rw [← fits_norm, h, fits_norm]
    exact n.1
  · rw [← deep_norm, h, deep_norm]
    exact n.2.1
  · rw [← bulk_norm, h, bulk_norm]
    exact n.2.2

/-! ## new lists all through: their rooms -/
mutual
def AtF (H : Hp) : V → Dt → List Addr → Prop
  | v, .lst ds, fp => ∃ a xs fs, v = .ref a ∧ H a = some (.lst xs) ∧ AtFs H xs ds fs ∧ fp = a :: fs
  | v, .non, fp => v = .non ∧ fp = []
  | v, .bl b, fp => v = .bl b ∧ fp = []
  | v, .int i, fp => v = .int i ∧ fp = []
  | v, .str w, fp => v = .str (tx w) ∧ w.length ≤ 1000000 ∧ fp = []
  | _, .tup _, _ => False
  | _, .dic, _ => False
def AtFs (H : Hp) : List V → List Dt → List Addr → Prop
  | vs, [], fp => vs = [] ∧ fp = []
  | vs, d :: ds, fp => ∃ v us f fs, vs = v :: us ∧ AtF H v d f ∧ AtFs H us ds fs ∧ fp = f ++ fs
end
mutual
theorem AtF.same {H H' : Hp} : ∀ (d : Dt) (v : V) (fp : List Addr), AtF H v d fp → (∀ b o, b ∈ fp → H b = some o → H' b = some o) → AtF H' v d fp
  | .lst ds, v, fp, h, e => by
    unfold AtF at h ⊢
    obtain ⟨a, xs, fs, rfl, h1, h2, rfl⟩ := h
    exact ⟨a, xs, fs, rfl, e _ _ (List.mem_cons_self ..) h1, AtFs.same ds xs fs h2 (fun b o hb => e b o (List.mem_cons_of_mem _ hb)), rfl⟩
  | .non, v, fp, h, e => by unfold AtF at h ⊢; exact h
  | .bl b, v, fp, h, e => by unfold AtF at h ⊢; exact h
  | .int i, v, fp, h, e => by unfold AtF at h ⊢; exact h
  | .str w, v, fp, h, e => by unfold AtF at h ⊢; exact h
  | .tup _, v, fp, h, e => by unfold AtF at h; exact h.elim
  | .dic, v, fp, h, e => by unfold AtF at h; exact h.elim
theorem AtFs.same {H H' : Hp} : ∀ (ds : List Dt) (vs : List V) (fp : List Addr), AtFs H vs ds fp → (∀ b o, b ∈ fp → H b = some o → H' b = some o) → AtFs H' vs ds fp
  | [], vs, fp, h, e => by unfold AtFs at h ⊢; exact h
  | d :: ds, vs, fp, h, e => by
    unfold AtFs at h ⊢
    obtain ⟨v, us, f, fs, rfl, h1, h2, rfl⟩ := h
    exact ⟨v, us, f, fs, rfl, AtF.same d v f h1 (fun b o hb => e b o (List.mem_append_left _ hb)), AtFs.same ds us fs h2 (fun b o hb => e b o (List.mem_append_right _ hb)), rfl⟩
end
mutual
theorem AtF.at {K : PySem.W.Frag} {H : Hp} : ∀ (d : Dt) (v : V) (fp : List Addr), AtF H v d fp → At K H v d
  | .lst ds, v, fp, h => by
    unfold AtF at h
    obtain ⟨a, xs, fs, rfl, h1, h2, rfl⟩ := h
    unfold At
    exact ⟨a, xs, rfl, SqL.of h1, AtFs.at ds xs fs h2⟩
  | .non, v, fp, h => by unfold AtF at h; unfold At; exact h.1
  | .bl b, v, fp, h => by unfold AtF at h; unfold At; exact h.1
  | .int i, v, fp, h => by unfold AtF at h; unfold At; exact h.1
  | .str w, v, fp, h => by unfold AtF at h; unfold At; exact ⟨h.1, h.2.1⟩
  | .tup _, v, fp, h => by unfold AtF at h; exact h.elim
  | .dic, v, fp, h => by unfold AtF at h; exact h.elim
theorem AtFs.at {K : PySem.W.Frag} {H : Hp} : ∀ (ds : List Dt) (vs : List V) (fp : List Addr), AtFs H vs ds fp → Ats K H vs ds
  | [], vs, fp, h => by unfold AtFs at h; unfold Ats; exact h.1
  | d :: ds, vs, fp, h => by
    unfold AtFs at h
    obtain ⟨v, us, f, fs, rfl, h1, h2, rfl⟩ := h
    unfold Ats
    exact ⟨v, us, rfl, AtF.at d v f h1, AtFs.at ds us fs h2⟩
end
theorem AtFs.snoc {H : Hp} {v : V} {d : Dt} {f : List Addr} (hv : AtF H v d f) : ∀ {ds : List Dt} {vs : List V} {fs : List Addr}, AtFs H vs ds fs → AtFs H (vs ++ [v]) (ds ++ [d]) (fs ++ f)
  | [], vs, fs, h => by
    unfold AtFs at h
    obtain ⟨rfl, rfl⟩ := h
    show AtFs H [v] [d] f
    unfold AtFs
    exact ⟨v, [], f, [], rfl, hv, by unfold AtFs; exact ⟨rfl, rfl⟩, (List.append_nil f).symm⟩
  | c :: ds, vs, fs, h => by
    unfold AtFs at h
    obtain ⟨u, us, g, gs, rfl, h1, h2, rfl⟩ := h
    show AtFs H (u :: (us ++ [v])) (c :: (ds ++ [d])) _
    unfold AtFs
    exact ⟨u, us ++ [v], g, gs ++ f, rfl, h1, AtFs.snoc hv h2, List.append_assoc ..⟩
theorem Ats.snoc {K : PySem.W.Frag} {H : Hp} {v : V} {d : Dt} (hv : At K H v d) : ∀ {ds : List Dt} {vs : List V}, Ats K H vs ds → Ats K H (vs ++ [v]) (ds ++ [d])
  | [], vs, h => by
    unfold Ats at h
    subst h
    show Ats K H [v] [d]
    unfold Ats
    exact ⟨v, [], rfl, hv, by unfold Ats; rfl⟩
  | c :: ds, vs, h => by
    unfold Ats at h
    obtain ⟨u, us, rfl, h1, h2⟩ := h
    show Ats K H (u :: (us ++ [v])) (c :: (ds ++ [d]))
    unfold Ats
    exact ⟨u, us ++ [v], rfl, h1, Ats.snoc hv h2⟩

/-! ## isinstance of handed things -/
theorem At.tyx {K : PySem.W.Frag} {H : Hp} {v : V} {d : Dt} (h : At K H v d) : TyX K H v (.type d.ty) := by
  cases d with
  | non => unfold At at h; subst h; exact .base .non
  | bl b => unfold At at h; subst h; exact .base (.bl b)
  | int i => unfold At at h; subst h; exact .base (.int i)
  | str w => unfold At at h; obtain ⟨rfl, _⟩ := h; exact .base (.str _)
  | lst ds =>
    unfold At at h
    obtain ⟨a, xs, rfl, h1, _⟩ := h
    rcases h1 with (h1 | ⟨o, h1⟩) | ⟨o, its, n, h1, h2, _⟩
    · exact .base (.lst h1)
    · exact .base (.frz h1)
    · exact .kList h1 h2
  | tup ds =>
    unfold At at h
    obtain ⟨a, xs, rfl, h1, _⟩ := h
    rcases h1 with (h1 | ⟨o, h1⟩) | ⟨o, its, n, h1, h2, _⟩
    · exact .base (.tup h1)
    · exact .fTuple h1
    · exact .kTuple h1 h2
  | dic => unfold At at h; obtain ⟨a, rfl, h1⟩ := h; exact .base (.dK h1)
theorem kit_known : ∀ y ∈ knownTy, ∀ n ∈ ["list", "tuple", "bool", "str", "int"], kitB y n = some (decide (y = n) || (decide (y = "bool") && decide (n = "int"))) := by decide +kernel
theorem isi_ty {K : PySem.W.Frag} {H : Hp} {v : V} {d : Dt} {n : String} {Q : VK} (h : At K H v d) (hn : n ∈ ["list", "tuple", "bool", "str", "int"]) (q : Q (.bl (decide (d.ty = n) || (decide (d.ty = "bool") && decide (n = "int")))) H) : rIsi K [v, .ty n] H Q :=
  ⟨v, .ty n, .type d.ty, .type n, _, rfl, .ty n, h.tyx, kit_ty (kit_known _ (ty_known d) n hn), q⟩
theorem isRow_ty (d : Dt) : isRow d = (decide (d.ty = "list") || decide (d.ty = "tuple")) := by cases d <;> simp [isRow, Dt.ty]
theorem isi_row {K : PySem.W.Frag} {H : Hp} {v : V} {d : Dt} {t : Addr} {Q : VK} (h : At K H v d) (ht : H t = some (.tup [.ty "list", .ty "tuple"])) (q : Q (.bl (isRow d)) H) : rIsiT K [v, .ref t] H Q := by
  refine ⟨v, t, _, .type d.ty, _, _, rfl, ht, .cons (.ty "list") (.cons (.ty "tuple") .nil), h.tyx, ?_, q⟩
  rw [isRow_ty]
  refine kitAny_cons (kit_ty (kit_known _ (ty_known d) "list" (by decide))) (fun e => ?_) (fun e => ?_)
  · have e1 : decide (d.ty = "list") = false := by
      cases h : decide (d.ty = "list") with
      | false => rfl
      | true => rw [h] at e; cases e
    rw [e1, Bool.false_or]
    refine kitAny_cons (kit_ty (kit_known _ (ty_known d) "tuple" (by decide))) (fun e2 => ?_) (fun e2 => ?_)
    · have e3 : decide (d.ty = "tuple") = false := by
        cases h : decide (d.ty = "tuple") with
        | false => rfl
        | true => rw [h] at e2; cases e2
      rw [e3]
      rfl
    · rw [show (decide ("tuple" = "int")) = false from by decide, Bool.and_false, Bool.or_false] at e2
      exact e2
  · rw [show (decide ("list" = "int")) = false from by decide, Bool.and_false, Bool.or_false] at e
    rw [e]
    rfl

/-! ## rooms apart -/
mutual
theorem AtF.trk {H : Hp} : ∀ (d : Dt) (v : V) (fp : List Addr), AtF H v d fp → ∀ b ∈ fp, ∃ o, H b = some o
  | .lst ds, v, fp, h => by
    unfold AtF at h
    obtain ⟨a, xs, fs, rfl, h1, h2, rfl⟩ := h
    intro b hb
    rcases List.mem_cons.mp hb with rfl | hb
    · exact ⟨_, h1⟩
    · exact AtFs.trk ds xs fs h2 b hb
  | .non, v, fp, h => by unfold AtF at h; obtain ⟨_, rfl⟩ := h; exact fun b hb => (List.not_mem_nil hb).elim
  | .bl b, v, fp, h => by unfold AtF at h; obtain ⟨_, rfl⟩ := h; exact fun b hb => (List.not_mem_nil hb).elim
  | .int i, v, fp, h => by unfold AtF at h; obtain ⟨_, rfl⟩ := h; exact fun b hb => (List.not_mem_nil hb).elim
  | .str w, v, fp, h => by unfold AtF at h; obtain ⟨_, _, rfl⟩ := h; exact fun b hb => (List.not_mem_nil hb).elim
  | .tup _, v, fp, h => by unfold AtF at h; exact h.elim
  | .dic, v, fp, h => by unfold AtF at h; exact h.elim
theorem AtFs.trk {H : Hp} : ∀ (ds : List Dt) (vs : List V) (fp : List Addr), AtFs H vs ds fp → ∀ b ∈ fp, ∃ o, H b = some o
  | [], vs, fp, h => by unfold AtFs at h; obtain ⟨_, rfl⟩ := h; exact fun b hb => (List.not_mem_nil hb).elim
  | d :: ds, vs, fp, h => by
    unfold AtFs at h
    obtain ⟨v, us, f, fs, rfl, h1, h2, rfl⟩ := h
    intro b hb
    rcases List.mem_append.mp hb with hb | hb
    · exact AtF.trk d v f h1 b hb
    · exact AtFs.trk ds us fs h2 b hb
end
/-- the heap without one thing -/
def hid (p : Addr) (H : Hp) : Hp := fun b => if b = p then none else H b
theorem hid_ne {p b : Addr} {H : Hp} (h : b ≠ p) : hid p H b = H b := if_neg h
theorem hid_at {p b : Addr} {H : Hp} {o : HO} (h : hid p H b = some o) : b ≠ p ∧ H b = some o := by
  by_cases e : b = p
  · rw [show hid p H b = none from if_pos e] at h
    cases h
  · exact ⟨e, (if_neg e).symm.trans h⟩
theorem hid_same (p : Addr) (H : Hp) : Same (hid p H) H := fun _ _ h => (hid_at h).2
theorem hid_mono {p : Addr} {H H' : Hp} (e : Same H H') : Same (hid p H) (hid p H') := fun b o h => by
  obtain ⟨h1, h2⟩ := hid_at h
  rw [hid_ne h1]
  exact e b o h2
theorem hid_upd {p t : Addr} {H : Hp} {o : HO} (h : t ≠ p) : hid p (upd H t o) = upd (hid p H) t o := by
  funext b
  by_cases e : b = p
  · subst e
    rw [upd_ne (fun z => h z.symm)]
    show (if b = b then none else _) = (if b = b then none else _)
    rw [if_pos rfl, if_pos rfl]
  · rw [hid_ne e]
    by_cases e2 : b = t
    · subst e2
      rw [upd_same, upd_same]
    · rw [upd_ne e2, upd_ne e2, hid_ne e]
theorem take_norm {ds : List Dt} {i : Nat} {d : Dt} (h : ds[i]? = some d) : (ds.map norm).take (i + 1) = (ds.map norm).take i ++ [norm d] := by
  rw [List.take_add_one, List.getElem?_map, h]
  rfl
theorem mem_deep {d e : Dt} (h : e ∈ d.items) : deep e + 1 ≤ deep d := by
  have key : ∀ ds : List Dt, e ∈ ds → deep e ≤ deepAll ds := by
    intro ds
    induction ds with
    | nil => intro h; cases h
    | cons c ds ih =>
      intro h
      simp only [deepAll]
      rcases List.mem_cons.mp h with rfl | h
      · omega
      · have := ih h
        omega
  cases d with
  | lst ds => have := key ds h; simp only [deep]; omega
  | tup ds => have := key ds h; simp only [deep]; omega
  | _ => cases h
theorem mem_bulk {d e : Dt} (h : e ∈ d.items) : bulk e + 1 ≤ bulk d := by
  have key : ∀ ds : List Dt, e ∈ ds → bulk e + 1 ≤ bulkAll ds := by
    intro ds
    induction ds with
    | nil => intro h; cases h
    | cons c ds ih =>
      intro h
      simp only [bulkAll]
      rcases List.mem_cons.mp h with rfl | h
      · omega
      · have := ih h
        omega
  cases d with
  | lst ds => have := key ds h; simp only [bulk]; omega
  | tup ds => have := key ds h; simp only [bulk]; omega
  | _ => cases h
theorem len_bulk (d : Dt) : d.items.length ≤ bulk d := by
  have key : ∀ ds : List Dt, ds.length ≤ bulkAll ds := by
    intro ds
    induction ds with
    | nil => exact Nat.zero_le _
    | cons c ds ih => simp only [bulkAll, List.length_cons]; omega
  cases d with
  | lst ds => exact key ds
  | tup ds => exact key ds
  | _ => exact Nat.zero_le _
theorem fitsAll_mem : ∀ {ds : List Dt}, FitsAll ds → ∀ {e}, e ∈ ds → Fits e
  | [], _, e, h => by cases h
  | d :: ds, f, e, h => by
    unfold FitsAll at f
    rcases List.mem_cons.mp h with rfl | h
    · exact f.1
    · exact fitsAll_mem f.2 h
theorem mem_fits {d e : Dt} (f : Fits d) (h : e ∈ d.items) : Fits e := by
  cases d with
  | lst ds => unfold Fits at f; exact fitsAll_mem f h
  | tup ds => unfold Fits at f; exact fitsAll_mem f h
  | _ => cases h
theorem leaf_AtF {K : PySem.W.Frag} {H : Hp} {v : V} {d : Dt} (h : At K H v d) (f : Fits d) (hr : isRow d = false) : AtF H v (norm d) [] := by
  cases d with
  | lst ds => cases hr
  | tup ds => cases hr
  | non => unfold At at h; simp only [norm]; unfold AtF; exact ⟨h, rfl⟩
  | bl b => unfold At at h; simp only [norm]; unfold AtF; exact ⟨h, rfl⟩
  | int i => unfold At at h; simp only [norm]; unfold AtF; exact ⟨h, rfl⟩
  | str w => unfold At at h; simp only [norm]; unfold AtF; exact ⟨h.1, h.2, rfl⟩
  | dic => unfold Fits at f; exact f.elim
/-- a comprehension over a row, whatever its items come to; the row stands in G, which stays -/
theorem lc_rowP {K : PySem.W.Frag} {a : Addr} {xs : List V} {tt : TT} {te : TE} {vs : List Nat} {σ : L2.St} {G H : Hp} {Q : VK} {j k : Nat} (hv : σ[j]? = some (some (.ref a))) (hr : Row K G a xs) (hG : Same G H)
    (hw : ∀ x, wipe ((wipe σ vs).set k (some x)) vs = wipe σ vs) (ht : ∀ σ H (R : Bool → Hp → Prop), R true H → tt σ H R)
    (Pv : Addr → Nat → List V → Hp → Prop) (h0 : ∀ D, H D = none → Pv D 0 [] (upd H D (.lst []))) (hk : ∀ D i ys H', Pv D i ys H' → Same G H')
    (hs : ∀ D (i : Nat) (x : V) (ys : List V) (H' : Hp), H D = none → xs[i]? = some x → Pv D i ys H' → te ((wipe σ vs).set k (some x)) H' fun y H4 => ∃ acc, H4 D = some (.lst acc) ∧ acc.length < sizeLine ∧ ∃ ys, Pv D (i + 1) ys (upd H4 D (.lst (acc ++ [y]))))
    (hd : ∀ D ys H', H D = none → Pv D xs.length ys H' → Q (.ref D) H') : tLc (iSeq K (tVar j)) (gName k) tt te vs σ H Q := by
  have st : ∀ D i x H', H D = none → xs[i]? = some x → (∃ ys, Pv D i ys H') → gName k x (wipe σ vs) H' fun σ2 H2 => wipe σ2 vs = wipe σ vs ∧ tt σ2 H2 fun b H3 =>
      if b = true then te σ2 H3 fun y H4 => ∃ acc, H4 D = some (.lst acc) ∧ acc.length < sizeLine ∧ (∃ ys, Pv D (i + 1) ys (upd H4 D (.lst (acc ++ [y])))) else (∃ ys, Pv D (i + 1) ys H3) := by
    intro D i x H' nD hx ⟨ys, hP⟩
    refine ⟨hw x, ht _ _ _ ?_⟩
    rw [if_pos rfl]
    exact hs D i x ys H' nD hx hP
  rcases hr with hr | hr
  · exact .inl ⟨_, hv, a, rfl, ⟨_, hG.seq hr⟩, fun D nD => L2.lc_list (K := K) (a := a) (xs := xs) (fun i H' => ∃ ys, Pv D i ys H') ⟨[], h0 D nD⟩ (fun i H' _ ⟨ys, p⟩ => (hk D i ys H' p).seq hr) (fun i x H' hx p => st D i x H' nD hx p) (fun H' ⟨ys, p⟩ => hd D ys H' nD p)⟩
  · exact .inr ⟨_, hv, a, rfl, ⟨_, sameT hG hr⟩, fun D nD => L2.lc_tup (K := K) (a := a) (xs := xs) (fun i H' => ∃ ys, Pv D i ys H') ⟨[], h0 D nD⟩ (fun i H' _ ⟨ys, p⟩ => sameT (hk D i ys H' p) hr) (fun i x H' hx p => st D i x H' nD hx p) (fun H' ⟨ys, p⟩ => hd D ys H' nD p)⟩
/-- the same with any target -/
theorem lc_rowX {K : PySem.W.Frag} {a : Addr} {xs : List V} {tg : TG} {tt : TT} {te : TE} {vs : List Nat} {σ : L2.St} {G H : Hp} {Q : VK} {j : Nat} (hv : σ[j]? = some (some (.ref a))) (hr : Row K G a xs) (hG : Same G H)
    (Pv : Addr → Nat → Hp → Prop) (h0 : ∀ D, H D = none → Pv D 0 (upd H D (.lst []))) (hk : ∀ D i H', Pv D i H' → Same G H')
    (hs : ∀ D (i : Nat) (x : V) (H' : Hp), H D = none → xs[i]? = some x → Pv D i H' → tg x (wipe σ vs) H' fun σ2 H2 => wipe σ2 vs = wipe σ vs ∧ tt σ2 H2 fun b H3 =>
      if b = true then te σ2 H3 fun y H4 => ∃ acc, H4 D = some (.lst acc) ∧ acc.length < sizeLine ∧ Pv D (i + 1) (upd H4 D (.lst (acc ++ [y]))) else Pv D (i + 1) H3)
    (hd : ∀ D H', H D = none → Pv D xs.length H' → Q (.ref D) H') : tLc (iSeq K (tVar j)) tg tt te vs σ H Q := by
  rcases hr with hr | hr
  · exact .inl ⟨_, hv, a, rfl, ⟨_, hG.seq hr⟩, fun D nD => L2.lc_list (K := K) (a := a) (xs := xs) (fun i H' => Pv D i H') (h0 D nD) (fun i H' _ p => (hk D i H' p).seq hr) (fun i x H' hx p => hs D i x H' nD hx p) (fun H' p => hd D H' nD p)⟩
  · exact .inr ⟨_, hv, a, rfl, ⟨_, sameT hG hr⟩, fun D nD => L2.lc_tup (K := K) (a := a) (xs := xs) (fun i H' => Pv D i H') (h0 D nD) (fun i H' _ p => sameT (hk D i H' p) hr) (fun i x H' hx p => hs D i x H' nD hx p) (fun H' p => hd D H' nD p)⟩
theorem hid_none {p b : Addr} {H : Hp} (h : H b = none) : hid p H b = none := by
  by_cases e : b = p
  · exact if_pos e
  · rw [hid_ne e]
    exact h
theorem hid_hid {D : Addr} {H : Hp} {o : HO} : hid D (upd H D o) = hid D H := by
  funext b
  by_cases e : b = D
  · subst e
    show (if b = b then none else _) = (if b = b then none else _)
    rw [if_pos rfl, if_pos rfl]
  · rw [hid_ne e, hid_ne e, upd_ne e]
end BK

namespace BK
open PySem PySem.Spec PyProof.Rows L2

/-! ## closed literals, as things -/
/-- what is new in H' -/
def since (H H' : Hp) : Hp := fun b => match H b with
  | none => H' b
  | some _ => none
theorem since_at {H H' : Hp} {b : Addr} {o : HO} (h : since H H' b = some o) : H b = none ∧ H' b = some o := by
  unfold since at h
  cases e : H b with
  | none => rw [e] at h; exact ⟨rfl, h⟩
  | some x => rw [e] at h; cases h
theorem since_of {H H' : Hp} {b : Addr} {o : HO} (h1 : H b = none) (h2 : H' b = some o) : since H H' b = some o := by
  unfold since
  rw [h1]
  exact h2
theorem since_same (H H' : Hp) : Same (since H H') H' := fun _ _ h => (since_at h).2
theorem since_mono {H H1 H2 : Hp} (e : Same H1 H2) : Same (since H H1) (since H H2) := fun b o h => since_of (since_at h).1 (e b o (since_at h).2)
theorem since_left {H H1 H2 : Hp} (e : Same H H1) : Same (since H1 H2) (since H H2) := fun b o h => since_of (e.free (since_at h).1) (since_at h).2
theorem since_hid {H H' : Hp} {p : Addr} {o : HO} (hp : H p = some o) : Same (since H H') (hid p H') := fun b x h => by
  rw [hid_ne (fun z => by rw [z] at h; have := (since_at h).1; rw [hp] at this; cases this)]
  exact (since_at h).2
def tLit (K : PySem.W.Frag) (d : Dt) : TE := fun _ H Q => ∀ H' v, Same H H' → At K (since H H') v d → Q v H'
def tLits (K : PySem.W.Frag) (ds : List Dt) : TA := fun _ H Q => ∀ H' vs, Same H H' → Ats K (since H H') vs ds → Q vs H'
section
variable {X : Cx} {e e1 e2 : PySem.Expr} {es : List PySem.Expr} {t t' : TE} {d : Dt} {ds : List Dt} {pos p : Pos} {i : Int} {j k : Nat}
theorem pe_wk (h : PE X e t) (hh : ∀ σ H Q, t' σ H Q → t σ H Q) : PE X e t' := ⟨fun pins s σ H Q I q => h.run pins s σ H Q I (hh σ H Q q)⟩
theorem pa_wk {ta ta' : TA} (h : PA X es ta) (hh : ∀ σ H Q, ta' σ H Q → ta σ H Q) : PA X es ta' := ⟨fun pos pins s σ H Q I q => h.run pos pins s σ H Q I (hh σ H Q q)⟩
theorem la_non {K : PySem.W.Frag} {H : Hp} : At K H .non .non := by unfold At; rfl
theorem la_bl {K : PySem.W.Frag} {H : Hp} {b : Bool} : At K H (.bl b) (.bl b) := by unfold At; rfl
theorem la_int {K : PySem.W.Frag} {H : Hp} {i : Int} : At K H (.int i) (.int i) := by unfold At; rfl
theorem la_str {K : PySem.W.Frag} {H : Hp} {w : List Nat} (h : w.length ≤ 1000000) : At K H (.str (tx w)) (.str w) := by unfold At; exact ⟨rfl, h⟩
theorem la_tup {K : PySem.W.Frag} {H : Hp} {a : Addr} {vs : List V} {ds : List Dt} (h : H a = some (.tup vs)) (hv : Ats K H vs ds) : At K H (.ref a) (.tup ds) := by
  unfold At
  exact ⟨a, vs, rfl, SqT.of h, hv⟩
theorem la_lst {K : PySem.W.Frag} {H : Hp} {a : Addr} {vs : List V} {ds : List Dt} (h : H a = some (.lst vs)) (hv : Ats K H vs ds) : At K H (.ref a) (.lst ds) := by
  unfold At
  exact ⟨a, vs, rfl, SqL.of h, hv⟩
theorem las_nil {K : PySem.W.Frag} {H : Hp} : Ats K H [] [] := by unfold Ats; rfl
theorem las_cons {K : PySem.W.Frag} {H : Hp} {v : V} {vs : List V} {d : Dt} {ds : List Dt} (h : At K H v d) (t : Ats K H vs ds) : Ats K H (v :: vs) (d :: ds) := by
  unfold Ats
  exact ⟨v, vs, rfl, h, t⟩
theorem las_len {K : PySem.W.Frag} {H : Hp} : ∀ {vs : List V} {ds : List Dt}, Ats K H vs ds → vs.length = ds.length
  | vs, [], h => by unfold Ats at h; subst h; rfl
  | vs, d :: ds, h => by
    unfold Ats at h
    obtain ⟨v, us, rfl, _, h2⟩ := h
    rw [List.length_cons, List.length_cons, las_len h2]
theorem las_app {K : PySem.W.Frag} {H : Hp} : ∀ {vs us : List V} {ds es : List Dt}, Ats K H vs ds → Ats K H us es → Ats K H (vs ++ us) (ds ++ es)
  | vs, us, [], es, h, h2 => by unfold Ats at h; subst h; exact h2
  | vs, us, d :: ds, es, h, h2 => by
    unfold Ats at h
    obtain ⟨v, ws, rfl, h3, h4⟩ := h
    exact las_cons h3 (las_app h4 h2)
theorem las_get {K : PySem.W.Frag} {H : Hp} : ∀ {vs : List V} {ds : List Dt} {i : Nat} {d : Dt}, Ats K H vs ds → ds[i]? = some d → ∃ v, vs[i]? = some v ∧ At K H v d
  | vs, [], i, d, h, e => by simp at e
  | vs, c :: ds, i, d, h, e => by
    unfold Ats at h
    obtain ⟨v, ws, rfl, h3, h4⟩ := h
    cases i with
    | zero =>
      cases e
      exact ⟨v, rfl, h3⟩
    | succ i => exact las_get (i := i) h4 e
theorem las_take {K : PySem.W.Frag} {H : Hp} : ∀ {vs : List V} {ds : List Dt} (n : Nat), Ats K H vs ds → Ats K H (vs.take n) (ds.take n)
  | vs, ds, 0, _ => by rw [List.take_zero, List.take_zero]; exact las_nil
  | vs, [], n + 1, h => by unfold Ats at h; subst h; exact las_nil
  | vs, d :: ds, n + 1, h => by
    unfold Ats at h
    obtain ⟨v, ws, rfl, h3, h4⟩ := h
    exact las_cons h3 (las_take n h4)
theorem las_drop {K : PySem.W.Frag} {H : Hp} : ∀ {vs : List V} {ds : List Dt} (n : Nat), Ats K H vs ds → Ats K H (vs.drop n) (ds.drop n)
  | vs, ds, 0, h => h
  | vs, [], n + 1, h => by unfold Ats at h; subst h; exact las_nil
  | vs, d :: ds, n + 1, h => by
    unfold Ats at h
    obtain ⟨v, ws, rfl, h3, h4⟩ := h
    exact las_drop n h4
theorem las_rep {K : PySem.W.Frag} {H : Hp} {v : V} {d : Dt} (h : At K H v d) : ∀ n, Ats K H (List.replicate n v) (List.replicate n d)
  | 0 => las_nil
  | n + 1 => las_cons h (las_rep h n)
theorem flat_one {α : Type} (v : α) : ∀ n, (List.replicate n [v]).flatten = List.replicate n v
  | 0 => rfl
  | n + 1 => by rw [List.replicate_succ, List.flatten_cons, flat_one v n]; rfl

theorem lit_non : PE X (.Constant .none j pos) (tLit X.K .non) := pe_wk pe_non fun σ H Q q => q H _ (Same.refl _) la_non
theorem lit_bl {b : Bool} : PE X (.Constant (.bool b) j pos) (tLit X.K (.bl b)) := pe_wk pe_bl fun σ H Q q => q H _ (Same.refl _) la_bl
theorem lit_int : PE X (.Constant (.int i) j pos) (tLit X.K (.int i)) := pe_wk pe_int fun σ H Q q => q H _ (Same.refl _) la_int
theorem lit_str {z : Str} (w : List Nat) (hz : z = tx w) (hl : w.length ≤ 1000000) : PE X (.Constant (.str z) j pos) (tLit X.K (.str w)) := pe_wk pe_str fun σ H Q q => by
  subst hz
  exact q H _ (Same.refl _) (la_str hl)
theorem lit_neg : PE X (.UnaryOp .USub (.Constant (.int i) j p) pos) (tLit X.K (.int (-i))) := pe_wk (pe_un un_neg pe_int) fun σ H Q q => ⟨i, rfl, q H _ (Same.refl _) la_int⟩
theorem lit_negE (h : PE X e (tLit X.K (.int i))) : PE X (.UnaryOp .USub e pos) (tLit X.K (.int (-i))) := pe_wk (pe_un un_neg h) fun σ H Q q H' v s hv => by
  unfold At at hv
  exact ⟨i, hv, q H' _ s la_int⟩
theorem lits_nil : PA X [] (tLits X.K []) := pa_wk pa_nil fun σ H Q q => q H _ (Same.refl _) las_nil
theorem lits_cons (h : PE X e (tLit X.K d)) (t : PA X es (tLits X.K ds)) (hs : starEach (e :: es) X.env = (false, eval e X.env) :: starEach es X.env := by rfl) : PA X (e :: es) (tLits X.K (d :: ds)) :=
  pa_wk (pa_cons h t hs) fun σ H Q q H1 v s1 hv H2 vs s2 hvs => q H2 _ (s1.trans s2) (las_cons (At.same (since_mono s2) _ _ hv) (Ats.same (since_left s1) _ _ hvs))
theorem lit_tup {x1} (h : PA X es (tLits X.K ds)) (hl : ds.length ≤ sizeLine) : PE X (.Tuple es x1 pos) (tLit X.K (.tup ds)) := pe_wk (pe_tup h) fun σ H Q q H1 vs s1 hvs =>
  ⟨by rw [las_len hvs]; exact hl, fun a na => q _ _ (s1.trans (same_upd na)) (la_tup (since_of (s1.free na) upd_same) (Ats.same (since_mono (same_upd na)) _ _ hvs))⟩
theorem lit_lst (h : PA X es (tLits X.K ds)) (hl : ds.length ≤ sizeLine) : PE X (.List es pos) (tLit X.K (.lst ds)) := pe_wk (pe_lst h) fun σ H Q q H1 vs s1 hvs =>
  ⟨by rw [las_len hvs]; exact hl, fun a na => q _ _ (s1.trans (same_upd na)) (la_lst (since_of (s1.free na) upd_same) (Ats.same (since_mono (same_upd na)) _ _ hvs))⟩
theorem lit_dic : PE X (.Dict [] [] pos) (tLit X.K .dic) := pe_wk pe_dnewK fun σ H Q q a na => q _ _ (same_upd na) (by unfold At; exact ⟨a, rfl, since_of na upd_same⟩)
theorem lit_mulS {z : Str} {p2 : Pos} (n : Nat) (hi : i = (n : Int)) (w r : List Nat) (hz : z = tx w) (hr : w.length = 1 ∧ (List.replicate n w).flatten = r) (hn : n ≤ 1000000) : PE X (.BinOp (.Constant (.str z) j p) .Mult (.Constant (.int i) k p2) pos) (tLit X.K (.str r)) :=
  pe_wk (pe_op op_mul_str pe_str pe_int) fun σ H Q q => by
    subst hz hi
    refine ⟨_, _, rfl, rfl, mul_ok 1 1000000 (by omega) hn (by decide) (by decide), ?_⟩
    rw [mul_tx w n, hr.2]
    exact q H _ (Same.refl _) (la_str (by rw [← hr.2, List.length_flatten, List.map_replicate, List.sum_replicate_nat, hr.1]; omega))
theorem lit_mulL (n : Nat) {p2 : Pos} (hi : i = (n : Int)) (h : PE X e (tLit X.K d)) (hn : n ≤ 1000000) (hs : starEach [e] X.env = (false, eval e X.env) :: starEach [] X.env := by rfl) : PE X (.BinOp (.List [e] p) .Mult (.Constant (.int i) k p2) pos) (tLit X.K (.lst (List.replicate n d))) :=
  pe_wk (pe_op op_rep (pe_lst (pa_cons h pa_nil hs)) pe_int) fun σ H Q q H1 v s1 hv => by
    subst hi
    refine ⟨by show 1 ≤ sizeLine; decide, fun a na => ⟨a, _, [v], rfl, rfl, upd_same, by omega, by omega, by show [v].length * _ ≤ _; simp only [List.length_singleton, Int.toNat_natCast]; exact Nat.le_trans (by omega) (show 1000000 ≤ sizeLine by decide), fun b nb => ?_⟩⟩
    have sb := (same_upd (o := .lst [v]) na).trans (same_upd (o := .lst (List.replicate (n : Int).toNat [v]).flatten) nb)
    have e1 : (List.replicate (n : Int).toNat [v]).flatten = List.replicate n v := by rw [Int.toNat_natCast, flat_one]
    rw [e1] at sb ⊢
    exact q _ _ (s1.trans sb) (la_lst (since_of (s1.free (by
      cases e : H1 b with
      | none => rfl
      | some o => exact absurd (same_upd na _ _ e) (by rw [nb]; exact nofun))) upd_same) (las_rep (At.same (since_mono sb) _ _ hv) n))
theorem lit_pow {a b : Nat} {i2 : Int} {k2 : Nat} {p2 : Pos} (hc : b ≤ 1000000 ∧ a < 2 ^ 64) (h1 : i = (a : Int)) (h2 : i2 = (b : Int)) : PE X (.BinOp (.Constant (.int i) j p) .Pow (.Constant (.int i2) k2 p2) pos) (tLit X.K (.int ((a : Int) ^ b))) :=
  pe_wk (pe_op op_pow pe_int pe_int) fun σ H Q q => by
    subst h1 h2
    exact ⟨_, _, rfl, rfl, ⟨by omega, by omega, by omega⟩, q H _ (Same.refl _) la_int⟩
theorem lit_add {i2 : Int} (h1 : PE X e1 (tLit X.K (.int i))) (h2 : PE X e2 (tLit X.K (.int i2))) (_ : True) : PE X (.BinOp e1 .Add e2 pos) (tLit X.K (.int (i + i2))) :=
  pe_wk (pe_op op_add h1 h2) fun σ H Q q H1 v s1 hv H2 u s2 hu => by
    unfold At at hv hu
    exact ⟨_, _, hv, hu, q H2 _ (s1.trans s2) la_int⟩
theorem lit_sub {i2 : Int} (h1 : PE X e1 (tLit X.K (.int i))) (h2 : PE X e2 (tLit X.K (.int i2))) (_ : True) : PE X (.BinOp e1 .Sub e2 pos) (tLit X.K (.int (i - i2))) :=
  pe_wk (pe_op op_sub h1 h2) fun σ H Q q H1 v s1 hv H2 u s2 hu => by
    unfold At at hv hu
    exact ⟨_, _, hv, hu, q H2 _ (s1.trans s2) la_int⟩
theorem lit_mul {i2 : Int} (h1 : PE X e1 (tLit X.K (.int i))) (h2 : PE X e2 (tLit X.K (.int i2))) (hc : i.natAbs < 2 ^ 64) : PE X (.BinOp e1 .Mult e2 pos) (tLit X.K (.int (i * i2))) :=
  pe_wk (pe_op op_mul h1 h2) fun σ H Q q H1 v s1 hv H2 u s2 hu => by
    unfold At at hv hu
    exact ⟨_, _, hv, hu, .inl ⟨by omega, by omega⟩, q H2 _ (s1.trans s2) la_int⟩
end

theorem lit_K {X : Cx} {e : PySem.Expr} {d : Dt} (K : PySem.W.Frag) (h : PE X e (tLit X.K d)) (hK : X.K = K := by rfl) : PE X e (tLit K d) := hK ▸ h
/-! ## reprs where an empty dict may be within -/
mutual
def FitD : Dt → Prop
  | .non => True
  | .bl _ => True
  | .int i => i.natAbs < 10 ^ 47
  | .str w => ∀ c ∈ w, c < 4294967296
  | .lst ds => FitDs ds
  | .tup ds => FitDs ds
  | .dic => True
def FitDs : List Dt → Prop
  | [] => True
  | d :: ds => FitD d ∧ FitDs ds
end
theorem fitDs_of : ∀ {ds : List Dt}, (∀ d ∈ ds, FitD d) → FitDs ds
  | [], _ => by unfold FitDs; trivial
  | d :: ds, h => by unfold FitDs; exact ⟨h d (List.mem_cons_self ..), fitDs_of fun x hx => h x (List.mem_cons_of_mem _ hx)⟩
theorem fitDs_mem : ∀ {ds : List Dt}, FitDs ds → ∀ {e}, e ∈ ds → FitD e
  | [], _, e, h => by cases h
  | d :: ds, f, e, h => by
    unfold FitDs at f
    rcases List.mem_cons.mp h with rfl | h
    · exact f.1
    · exact fitDs_mem f.2 h
mutual
theorem fitD_of : ∀ d : Dt, Fits d → FitD d
  | .non, _ => by unfold FitD; trivial
  | .bl _, _ => by unfold FitD; trivial
  | .int i, h => by unfold Fits at h; unfold FitD; exact h
  | .str w, h => by unfold Fits at h; unfold FitD; exact h
  | .lst ds, h => by unfold Fits at h; unfold FitD; exact fitDs_ofA ds h
  | .tup ds, h => by unfold Fits at h; unfold FitD; exact fitDs_ofA ds h
  | .dic, h => by unfold FitD; trivial
theorem fitDs_ofA : ∀ ds : List Dt, FitsAll ds → FitDs ds
  | [], _ => by unfold FitDs; trivial
  | d :: ds, h => by unfold FitsAll at h; unfold FitDs; exact ⟨fitD_of d h.1, fitDs_ofA ds h.2⟩
end
mutual
theorem fitD_short : ∀ d : Dt, FitD d → d.py.leavesShort 48 = true ∧ d.py.showable = true
  | .non, _ => by simp only [Dt.py, PyData.leavesShort, PyData.showable, and_self]
  | .bl _, _ => by simp only [Dt.py, PyData.leavesShort, PyData.showable, and_self]
  | .int i, h => by
    unfold FitD at h
    simp only [Dt.py, PyData.leavesShort, PyData.showable, decide_eq_true_eq]
    exact ⟨int48 h, int_log h⟩
  | .str w, h => by
    unfold FitD at h
    simp only [Dt.py, PyData.leavesShort, PyData.showable, tx_cps, List.all_eq_true, decide_eq_true_eq, and_true]
    exact fun c hc => h c hc
  | .lst ds, h => by
    unfold FitD at h
    simp only [Dt.py, PyData.leavesShort, PyData.showable]
    exact fitDs_short ds h
  | .tup ds, h => by
    unfold FitD at h
    simp only [Dt.py, PyData.leavesShort, PyData.showable]
    exact fitDs_short ds h
  | .dic, h => by simp only [Dt.py, PyData.leavesShort, PyData.leavesShortKv, PyData.showable, PyData.showableKv, and_self]
theorem fitDs_short : ∀ ds : List Dt, FitDs ds → PyData.leavesShortAll 48 (pyAll ds) = true ∧ PyData.showableAll (pyAll ds) = true
  | [], _ => by simp only [pyAll, PyData.leavesShortAll, PyData.showableAll, and_self]
  | d :: ds, h => by
    unfold FitDs at h
    have h1 := fitD_short d h.1
    have h2 := fitDs_short ds h.2
    simp only [pyAll, PyData.leavesShortAll, PyData.showableAll, h1.1, h1.2, h2.1, h2.2, Bool.and_self, and_self]
end
theorem not_mods {X : Cx} {pins : List (Addr × Obj)} {σ : L2.St} {H : Hp} {s : Shared} (hm : Mods X.base) (I : L2.Inv X pins σ H s) {a : Addr} {o : Obj} {vs : Array Value} {n : Nat} (h : s.heap.get? a = some o) (hd : o.data = .seq vs n) : sysModules ≠ a := by
  intro z
  subst z
  obtain ⟨mm, ob, es, ep, h1, h2, h3⟩ := hm
  have := (I.bs _ _ h1).1
  rw [h] at this
  cases this
  rw [hd] at h2
  cases h2
section
variable {X : Cx} {pins : List (Addr × Obj)} {σ : L2.St} {H : Hp} {s : Shared}
mutual
theorem reads_D (hm : Mods X.base) (I : L2.Inv X pins σ H s) : ∀ (d : Dt) (v : V) (u : Value), At X.K H v d → RelV v u → FitD d → ∃ as, Reads s.heap u d.py as ∧ sysModules ∉ as
  | .non, v, u, h, r, _ => by
    unfold At at h
    subst h
    cases (show u = Value.none from r)
    simp only [Dt.py]
    exact ⟨_, .none, List.not_mem_nil⟩
  | .bl b, v, u, h, r, _ => by
    unfold At at h
    subst h
    cases (show u = Value.bool b from r)
    simp only [Dt.py]
    exact ⟨_, .bool b, List.not_mem_nil⟩
  | .int i, v, u, h, r, _ => by
    unfold At at h
    subst h
    obtain ⟨t, rfl⟩ := r
    simp only [Dt.py]
    exact ⟨_, .int i t, List.not_mem_nil⟩
  | .str w, v, u, h, r, _ => by
    unfold At at h
    obtain ⟨rfl, _⟩ := h
    obtain ⟨t, rfl⟩ := r
    simp only [Dt.py]
    exact ⟨_, .str _ t, List.not_mem_nil⟩
  | .lst ds, v, u, h, r, f => by
    unfold At at h
    unfold FitD at f
    obtain ⟨a, xs, rfl, h1, h2⟩ := h
    cases (show u = Value.ref a from r)
    obtain ⟨its, rv, ⟨o, n, e1, e2, _, e3⟩, _⟩ := I.list h1
    obtain ⟨as, k, kn⟩ := reads_Ds hm I ds xs its h2 rv f
    simp only [Dt.py]
    exact ⟨_, .list e1 e2 e3 (by rw [List.toList_toArray]; exact k), fun z => (List.mem_cons.mp z).elim (not_mods hm I e1 e3) kn⟩
  | .tup ds, v, u, h, r, f => by
    unfold At at h
    unfold FitD at f
    obtain ⟨a, xs, rfl, h1, h2⟩ := h
    cases (show u = Value.ref a from r)
    obtain ⟨its, rv, ⟨o, e1, e2, n, e3⟩, _⟩ := I.tuple h1
    obtain ⟨as, k, kn⟩ := reads_Ds hm I ds xs its h2 rv f
    simp only [Dt.py]
    exact ⟨_, .tuple e1 e2 e3 (by rw [List.toList_toArray]; exact k), kn⟩
  | .dic, v, u, h, r, f => by
    unfold At at h
    obtain ⟨a, rfl, h1⟩ := h
    cases (show u = Value.ref a from r)
    obtain ⟨_, hne, vs, kv, o, es, ep, e1, e2, e3, e4⟩ := I.hok a _ h1
    cases kv
    have e5 : es.toList = [] := by
      obtain ⟨_, p, _⟩ := e4
      cases hl : es.toList with
      | nil => rfl
      | cons x l =>
        rw [hl] at p
        cases p
    simp only [Dt.py]
    refine ⟨_, .dict (kvs := []) (as := []) (bs := []) e1 e2.1 e3 (by rw [e5]; exact .nil) (by rw [e5]; exact .nil), fun z => ?_⟩
    rcases List.mem_cons.mp z with z | z
    · exact absurd z.symm (beq_eq_false_iff_ne.mp hne)
    · cases z
theorem reads_Ds (hm : Mods X.base) (I : L2.Inv X pins σ H s) : ∀ (ds : List Dt) (vs : List V) (us : List Value), Ats X.K H vs ds → Vals vs us → FitDs ds → ∃ as, ReadsAll s.heap us (pyAll ds) as ∧ sysModules ∉ as
  | [], vs, us, h, r, _ => by
    unfold Ats at h
    subst h
    cases r
    simp only [pyAll]
    exact ⟨_, .nil, List.not_mem_nil⟩
  | d :: ds, vs, us, h, r, f => by
    unfold Ats at h
    unfold FitDs at f
    obtain ⟨v, ws, rfl, h1, h2⟩ := h
    cases r with
    | cons r1 r2 =>
      obtain ⟨a1, k1, n1⟩ := reads_D hm I d v _ h1 r1 f.1
      obtain ⟨a2, k2, n2⟩ := reads_Ds hm I ds ws _ h2 r2 f.2
      simp only [pyAll]
      exact ⟨_, .cons k1 k2, fun z => (List.mem_append.mp z).elim n1 n2⟩
end
end
def NeatD (d : Dt) : Prop := FitD d ∧ deep d ≤ 60 ∧ bulk d ≤ 300000
theorem Neat.d {d : Dt} (h : Neat d) : NeatD d := ⟨fitD_of _ h.1, h.2⟩
theorem neatD_size {d : Dt} (h : NeatD d) : (shw d).length ≤ sizeLine := by
  have h1 := PyData.shown_le_bulk 48 (by decide) d.py (fitD_short d h.1).1
  rw [bulk_py] at h1
  have h2 : (48 + 2) * bulk d ≤ 50 * 300000 := Nat.mul_le_mul (Nat.le_refl _) h.2.2
  have h3 : sizeLine = 16777216 := by decide
  unfold shw
  omega
def rReprD (K : PySem.W.Frag) : List V → Hp → VK → Prop := fun xs H Q => ∃ (p : Addr) (d : Dt), xs = [.ref p] ∧ At K H (.ref p) d ∧ NeatD d ∧ Q (.str (shw d)) H
theorem call_reprD {X : Cx} (hm : Mods X.base) (hg : X.A.guards = some []) (hu : X.A.units + 64 < cLine) : CallR X (.builtin "repr") (rReprD X.K) := by
  intro pins s σ H xs us Q I r h
  obtain ⟨p, d, rfl, hat, hn, q⟩ := h
  obtain ⟨u, rfl, rp⟩ := vals1 r
  cases (show u = Value.ref p from rp)
  obtain ⟨as, rd, no⟩ := reads_D hm I d _ _ hat rfl hn.1
  refine repr_of_reads' rd (fitD_short d hn.1).2 (fun _ => no) hg (by rw [depth_py]; have := hn.2.1; omega) (fun _ _ e => e) (fun h' t tk hk => ?_) (neatD_size hn)
  exact ⟨.str (shw d), H, I.kept (t' := tk) (fun b o e => hk b o e), ⟨t, rfl⟩, q⟩
end BK

namespace BK
open PySem PySem.Spec PyProof.Rows L2

theorem few_le {n : Nat} (h : n ≤ 1000) : n ≤ sizeLine := Nat.le_trans h (by decide)
/-! ## things written out of literals and of what stands in slots; p is the spring, which is left out -/
def addD : Dt → Dt → Dt
  | .int a, .int b => .int (a + b)
  | _, _ => .non
def subD : Dt → Dt → Dt
  | .int a, .int b => .int (a - b)
  | _, _ => .non
def mulD : Dt → Dt → Dt
  | .int a, .int b => .int (a * b)
  | _, _ => .non
/-- what stands in the slots U, and that in the slots I stand whole numbers (less than 10^100) -/
def Slots (K : PySem.W.Frag) (U I : List Nat) (p : Addr) (ρ : Nat → Dt) (σ : L2.St) (H : Hp) : Prop :=
  (∃ o, H p = some o) ∧ (∀ i ∈ U, ∃ v, σ[i]? = some (some v) ∧ At K (hid p H) v (ρ i)) ∧ ∀ i ∈ I, ∃ a : Int, ρ i = .int a ∧ a.natAbs < 10 ^ 100
theorem Slots.mono {K : PySem.W.Frag} {U I : List Nat} {p : Addr} {ρ : Nat → Dt} {σ : L2.St} {H H' : Hp} (h : Slots K U I p ρ σ H) (s : Same H H') : Slots K U I p ρ σ H' :=
  ⟨h.1.elim fun o e => ⟨o, s _ _ e⟩, fun i hi => (h.2.1 i hi).elim fun v e => ⟨v, e.1, At.same (hid_mono s) _ _ e.2⟩, h.2.2⟩
def tThg (K : PySem.W.Frag) (U I : List Nat) (tm : (Nat → Dt) → Dt) : TE := fun σ H Q => ∃ p ρ, Slots K U I p ρ σ H ∧ ∀ H' v, Same H H' → At K (hid p H') v (tm ρ) → Q v H'
def tThgs (K : PySem.W.Frag) (U I : List Nat) (tm : (Nat → Dt) → List Dt) : TA := fun σ H Q => ∃ p ρ, Slots K U I p ρ σ H ∧ ∀ H' vs, Same H H' → Ats K (hid p H') vs (tm ρ) → Q vs H'
/-- whole numbers -/
def tNum (K : PySem.W.Frag) (U I : List Nat) (tm : (Nat → Dt) → Int) : TE := fun σ H Q => ∃ p ρ, Slots K U I p ρ σ H ∧ Q (.int (tm ρ)) H
def intD : Dt → Int
  | .int a => a
  | _ => 0
section
variable {X : Cx} {e e1 e2 : PySem.Expr} {es : List PySem.Expr} {t t' : TE} {pos : Pos} {U I : List Nat} {tm tm1 tm2 : (Nat → Dt) → Dt} {tms : (Nat → Dt) → List Dt} {n1 n2 : (Nat → Dt) → Int} {i : Nat} {k : Int} {j : Nat}
theorem tg_lit {d : Dt} (h : PE X e (tLit X.K d)) : PE X e (tThg X.K U I fun _ => d) := pe_wk h fun σ H Q q H' v s hv => by
  obtain ⟨p, ρ, hS, q⟩ := q
  obtain ⟨o, ho⟩ := hS.1
  exact q H' v s (At.same (since_hid ho) _ _ hv)
theorem tg_var (h : PE X e (tVar i)) (hi : i ∈ U) : PE X e (tThg X.K U I fun ρ => ρ i) := pe_wk h fun σ H Q q => by
  obtain ⟨p, ρ, hS, q⟩ := q
  obtain ⟨v, h1, h2⟩ := hS.2.1 i hi
  exact ⟨v, h1, q H v (Same.refl _) h2⟩
theorem tn_lit : PE X (.Constant (.int k) j pos) (tNum X.K U I fun _ => k) := pe_wk pe_int fun σ H Q q => by
  obtain ⟨p, ρ, hS, q⟩ := q
  exact q
theorem tn_var (h : PE X e (tVar i)) (hi : i ∈ U) (hI : i ∈ I) : PE X e (tNum X.K U I fun ρ => intD (ρ i)) := pe_wk h fun σ H Q q => by
  obtain ⟨p, ρ, hS, q⟩ := q
  obtain ⟨v, h1, h2⟩ := hS.2.1 i hi
  obtain ⟨a, h3, _⟩ := hS.2.2 i hI
  have q : Q (V.int (intD (ρ i))) H := q
  rw [h3] at h2 q
  unfold At at h2
  subst h2
  exact ⟨_, h1, q⟩
theorem tn_add (h1 : PE X e1 (tNum X.K U I n1)) (h2 : PE X e2 (tNum X.K U I n2)) : PE X (.BinOp e1 .Add e2 pos) (tNum X.K U I fun ρ => n1 ρ + n2 ρ) := pe_wk (pe_op op_add h1 h2) fun σ H Q q => by
  obtain ⟨p, ρ, hS, q⟩ := q
  exact ⟨p, ρ, hS, p, ρ, hS, _, _, rfl, rfl, q⟩
theorem tn_sub (h1 : PE X e1 (tNum X.K U I n1)) (h2 : PE X e2 (tNum X.K U I n2)) : PE X (.BinOp e1 .Sub e2 pos) (tNum X.K U I fun ρ => n1 ρ - n2 ρ) := pe_wk (pe_op op_sub h1 h2) fun σ H Q q => by
  obtain ⟨p, ρ, hS, q⟩ := q
  exact ⟨p, ρ, hS, p, ρ, hS, _, _, rfl, rfl, q⟩
theorem tg_num (h : PE X e (tNum X.K U I n1)) : PE X e (tThg X.K U I fun ρ => .int (n1 ρ)) := pe_wk h fun σ H Q q => by
  obtain ⟨p, ρ, hS, q⟩ := q
  exact ⟨p, ρ, hS, q H _ (Same.refl _) la_int⟩
theorem tgs_nil : PA X [] (tThgs X.K U I fun _ => []) := pa_wk pa_nil fun σ H Q q => by
  obtain ⟨p, ρ, hS, q⟩ := q
  exact q H _ (Same.refl _) las_nil
theorem tgs_cons (h : PE X e (tThg X.K U I tm)) (t : PA X es (tThgs X.K U I tms)) (hs : starEach (e :: es) X.env = (false, eval e X.env) :: starEach es X.env := by rfl) : PA X (e :: es) (tThgs X.K U I fun ρ => tm ρ :: tms ρ) :=
  pa_wk (pa_cons h t hs) fun σ H Q q => by
    obtain ⟨p, ρ, hS, q⟩ := q
    exact ⟨p, ρ, hS, fun H1 v s1 hv => ⟨p, ρ, hS.mono s1, fun H2 vs s2 hvs => q H2 _ (s1.trans s2) (las_cons (At.same (hid_mono s2) _ _ hv) hvs)⟩⟩
theorem hid_new {H : Hp} {p a : Addr} {o u : HO} (hp : H p = some o) (na : H a = none) : hid p (upd H a u) a = some u := by
  rw [hid_ne (fun z => by rw [z, hp] at na; cases na), upd_same]
theorem tg_tup {x1} (h : PA X es (tThgs X.K U I tms)) (hl : ∀ ρ, (tms ρ).length ≤ sizeLine) : PE X (.Tuple es x1 pos) (tThg X.K U I fun ρ => .tup (tms ρ)) := pe_wk (pe_tup h) fun σ H Q q => by
  obtain ⟨p, ρ, hS, q⟩ := q
  refine ⟨p, ρ, hS, fun H1 vs s1 hvs => ⟨by rw [las_len hvs]; exact hl ρ, fun a na => ?_⟩⟩
  obtain ⟨o, ho⟩ := (hS.mono s1).1
  exact q _ _ (s1.trans (same_upd na)) (la_tup (hid_new ho na) (Ats.same (hid_mono (same_upd na)) _ _ hvs))
theorem tg_lst (h : PA X es (tThgs X.K U I tms)) (hl : ∀ ρ, (tms ρ).length ≤ sizeLine) : PE X (.List es pos) (tThg X.K U I fun ρ => .lst (tms ρ)) := pe_wk (pe_lst h) fun σ H Q q => by
  obtain ⟨p, ρ, hS, q⟩ := q
  refine ⟨p, ρ, hS, fun H1 vs s1 hvs => ⟨by rw [las_len hvs]; exact hl ρ, fun a na => ?_⟩⟩
  obtain ⟨o, ho⟩ := (hS.mono s1).1
  exact q _ _ (s1.trans (same_upd na)) (la_lst (hid_new ho na) (Ats.same (hid_mono (same_upd na)) _ _ hvs))
/-- a list of things, new -/
def tNew (K : PySem.W.Frag) (U I : List Nat) (tms : (Nat → Dt) → List Dt) : TE := fun σ H Q => ∃ p ρ, Slots K U I p ρ σ H ∧ ∀ H' vs a, Same H H' → H' a = none → Ats K (hid p H') vs (tms ρ) → Q (.ref a) (upd H' a (.lst vs))
theorem tg_new (h : PA X es (tThgs X.K U I tms)) (hl : ∀ ρ, (tms ρ).length ≤ sizeLine) : PE X (.List es pos) (tNew X.K U I tms) := pe_wk (pe_lst h) fun σ H Q q => by
  obtain ⟨p, ρ, hS, q⟩ := q
  exact ⟨p, ρ, hS, fun H1 vs s1 hvs => ⟨by rw [las_len hvs]; exact hl ρ, fun a na => q H1 vs a s1 na hvs⟩⟩
/-- a list of things, joined to one in slot i -/
def tJoin (K : PySem.W.Frag) (U I : List Nat) (i : Nat) (tms : (Nat → Dt) → List Dt) : TE := fun σ H Q => ∃ p ρ l xs ds, Slots K U I p ρ σ H ∧ σ[i]? = some (some (.ref l)) ∧ H l = some (.lst xs) ∧ Ats K (hid p H) xs ds ∧ ds.length ≤ 10000 ∧
  ∀ H' vs a, Same H H' → H' a = none → Ats K (hid p H') vs (ds ++ tms ρ) → Q (.ref a) (upd H' a (.lst vs))
theorem tg_join {pos2 : Pos} (h1 : PE X e (tVar i)) (h : PA X es (tThgs X.K U I tms)) (hl : ∀ ρ, (tms ρ).length ≤ 1000) : PE X (.BinOp e .Add (.List es pos2) pos) (tJoin X.K U I i tms) := pe_wk (pe_op op_cat h1 (tg_new h fun ρ => few_le (hl ρ))) fun σ H Q q => by
  obtain ⟨p, ρ, l, xs, ds, hS, h2, h3, h4, h5, q⟩ := q
  refine ⟨_, h2, p, ρ, hS, fun H1 vs a s1 na hvs => ?_⟩
  have s2 := s1.trans (same_upd (o := .lst vs) na)
  refine ⟨l, a, xs, vs, rfl, rfl, s2 _ _ h3, upd_same, ?_, fun b nb => ?_⟩
  · rw [las_len h4, las_len hvs]
    have := hl ρ
    exact Nat.le_trans (show ds.length + (tms ρ).length ≤ 11000 by omega) (by decide)
  · exact q _ _ b s2 nb (las_app (Ats.same (hid_mono s2) _ _ h4) (Ats.same (hid_mono (same_upd na)) _ _ hvs))
end
end BK

namespace BK
open PySem PySem.Spec PyProof.Rows L2

/-! ## errors that are kept behind their clause -/
/-- an error of the class cls that was caught, kept at a -/
def ExB (cls : Value) (d : Option Addr) (a : Addr) : HO := .ext fun h => ∃ (oe : Obj) (vs : Array Value), h.get? a = some oe ∧ Zc cls d oe ∧ oe.data = .fields vs
section
variable {X : Cx} {pins : List (Addr × Obj)} {σ : L2.St} {H : Hp} {s : Shared} {a : Addr} {oe : Obj} {vs : Array Value} {cls : Value} {d : Option Addr}
theorem inv_keep (I : L2.Inv X ((a, oe) :: pins) σ H s) (n0 : ∀ o, X.s_0.heap.get? a = some o → X.H_0 a = none → a ∉ X.ex → False) (hp : ∀ p ∈ X.pn ++ pins, p.1 ≠ a) (hz : Zc cls d oe) (hd : oe.data = .fields vs) : L2.Inv X pins σ (upd H a (ExB cls d a)) s := by
  obtain ⟨ha, na, nL, nF, nc⟩ := I.pin (a, oe) (List.mem_append_right _ List.mem_cons_self)
  have off : ∀ {b : Addr} {u : HO}, H b = some u → b ≠ a := fun {b u} e z => by
    rw [z, na] at e
    cases e
  refine ⟨I.ok, I.os, I.bare, ⟨I.base.keep, I.base.slot, fun b o e n hx => ?_, I.base.there, fun b xs e => ?_, fun b o u e => ?_, fun b ps e => ?_⟩, I.loc, I.cell, ?_, fun x c e => ?_, fun p hm => ?_, ?_, I.len⟩
  · by_cases hb : b = a
    · subst hb
      exact (n0 o e n hx).elim
    · rw [upd_ne hb]
      exact I.base.free b o e n hx
  · have q := I.base.tups b xs e
    rw [upd_ne (off q)]
    exact q
  · have q := I.base.frzs b o u e
    rw [upd_ne (off q)]
    exact q
  · obtain ⟨m, q⟩ := I.base.tbls b ps e
    exact ⟨m, by rw [upd_ne (off q)]; exact q⟩
  · rw [upd_ne (fun z => nL z.symm)]
    exact I.free
  · have hc : c ≠ a := fun z => by
      obtain ⟨v, o, ho, hv⟩ := I.cell x c e
      rw [z, ha] at ho
      cases ho
      exact nc v hv
    rw [upd_ne hc]
    exact I.freeC x c e
  · obtain ⟨e, n, ne, nf, hv⟩ := I.pin p (by
      rcases List.mem_append.mp hm with z | z
      · exact List.mem_append_left _ z
      · exact List.mem_append_right _ (List.mem_cons_of_mem _ z))
    exact ⟨e, by rw [upd_ne (hp p hm)]; exact n, ne, nf, hv⟩
  · exact I.hok.laidN (fun _ _ q => q) na ⟨⟨oe, vs, ha, hz, hd⟩, ⟨oe, ha⟩, fun _ _ ⟨o, v, q, r⟩ k => ⟨o, v, k o q, r⟩⟩
end
/-- what a clause wishes: behind its suite, where it runs on, the error is kept -/
def wKeep (K : PySem.W.Frag) (c : Value) (i : Nat) (ts : Addr → Value → Option Addr → TS) (Wout : WX) (D : Ends) : WX := fun cls d σ H =>
  ∃ b, PySem.W.exmOne K cls c = some b ∧ (b = true → ∀ a, H a = none → ts a cls d { nx := fun σ1 H1 => H1 a = none → D.nx (σ1.set i none) (upd H1 a (ExB cls d a)), rt := D.rt, bk := fun σ1 H1 => D.bk (σ1.set i none) H1, ct := fun σ1 H1 => D.ct (σ1.set i none) H1 } (σ.set i (some (.ref a))) H) ∧
    (b = false → Wout cls d σ H)
theorem inv_pinned {X : Cx} {pins pn' : List (Addr × Obj)} {σ : L2.St} {H : Hp} {s : Shared} {a : Addr} {q : Addr × Obj} (I : L2.Inv (X.suite a (q :: (X.pn ++ pins))) pn' σ H s) (ok : X.Ok) : L2.Inv X (q :: pins) σ H s :=
  ⟨ok, I.os, I.bare, I.base, I.loc, I.cell, I.free, I.freeC, fun p hp => I.pin p (List.mem_append_left _ (by
    rcases List.mem_append.mp hp with z | z
    · exact List.mem_cons_of_mem _ (List.mem_append_left _ z)
    · rcases List.mem_cons.mp z with z | z
      · rw [z]
        exact List.mem_cons_self
      · exact List.mem_cons_of_mem _ (List.mem_append_right _ z))), I.hok, I.len⟩
section
variable {X : Cx} {x n : Str} {c : Value} {i : Nat} {body suite : List Stmt} {b0 : Stmt} {np pos pos' : Pos} {tb : WX → TS} {ts : Addr → Value → Option Addr → TS} {Wout : WX}
/-- try: body, except x as n: suite -/
theorem ps_tryK (hs : X.stack = X.env :: X.outer) (hf : X.env.frame = some X.env.locals) (hN : X.N.Nodup) (hi : X.N[i]? = some n) (hln : X.env.kindOf n = some .local) (hc : Names X x c) (tk : Takes X Wout)
    (hb : ∀ (W : WX) (pn : List (Addr × Obj)) (xe : Value → Shared → Prop), Takes (X.tr pn xe) W → PassesOwn (model X.prog X.w) X.A X.env xe → PSs (X.tr pn xe) body (tb W))
    (hsu : ∀ (a : Addr) (oe : Obj) (cls : Value) (d : Option Addr) (pn : List (Addr × Obj)), Zc cls d oe → (∃ vs, oe.data = .fields vs) → PSs (X.suite a ((a, oe) :: pn)) (b0 :: suite) (ts a cls d)) :
    PS X (.Try body [.ExceptHandler (some (.Name x np)) (some n) (b0 :: suite) pos'] [] [] pos) (fun D σ H => tb (wKeep X.K c i ts Wout D) D σ H) := by
  refine ⟨fun pins s σ H D I h => ?_⟩
  have ok := I.ok
  have fr : X.A.frames = some (X.env :: X.outer) := ok.frames.trans (by rw [hs])
  refine wpAny_Try_except (wpAny_mono ((hb (wKeep X.K c i ts Wout D) (X.pn ++ pins) (fun e s1 => wpAny (model X.prog X.w) X.A (noteFrame e X.env) (fun _ s2 => wpAny (model X.prog X.w) X.A (setFlight e none) (fun _ s3 =>
    wpAny (model X.prog X.w) X.A (handleBy e X.env [.ExceptHandler (some (.Name x np)) (some n) (b0 :: suite) pos']) (SP X pins D) X.xe s3) X.xe s2) X.xe s1) (fun u s' xx => ?_) PassesOwn.looking).run [] s σ H D (I.toTry _) h) (fun f s1 hsp => ?_) (fun _ _ z => z))
  · obtain ⟨a, B, sI, pins', σ1, H1, cls, d, rfl, J0, nb, up, sky, na, os, ag, b, hb1, hyes, hno⟩ := xx
    have J : L2.Inv X pins σ1 H1 sI := J0.ofTry ok
    show wpAny (model X.prog X.w) X.A (noteFrame (.ref a) X.env) _ _ _
    refine Sky.land Zc.steady fr hf (by rw [← hs]; exact sky) fun h3 fl3 up3 => ?_
    have J3 : L2.Inv X pins σ1 H1 { s' with heap := h3 } := J.landed nb fl3.1 (up.trans up3) os ag
    obtain ⟨oe3, vs3, he3, hz3, hd3⟩ := fl3.there
    have nfr : a ∉ frs (X.env :: X.outer) := fun hm => by
      obtain ⟨_, o1, e1, hnf⟩ := fl3.2.2.1.mem hm
      rw [he3] at e1
      cases e1
      exact hnf _ hd3
    have nL : a ≠ X.env.locals := fun z => nfr (List.mem_filterMap.mpr ⟨X.env, List.mem_cons_self, by rw [hf, z]⟩)
    have nF : a ∉ X.fs := fun hm => by
      obtain ⟨e, he, q⟩ := List.mem_filterMap.mp hm
      exact nfr (List.mem_filterMap.mpr ⟨e, List.mem_cons_of_mem _ he, q⟩)
    have nB : B.get? a = none := fl3.2.1
    have n0 : ∀ o, X.s_0.heap.get? a = some o → X.H_0 a = none → a ∉ X.ex → False := fun o e n hx => by
      obtain ⟨o1, e1⟩ := J.base.there a o e hx
      have := nb a o1 e1 (by rw [hs]; exact nfr)
      rw [nB] at this
      cases this
    have hpa : ∀ p ∈ X.pn ++ pins, p.1 ≠ a := fun p hp z => by
      obtain ⟨e1, _⟩ := J.pin p hp
      rw [z] at e1
      have := nb a _ e1 (by rw [hs]; exact nfr)
      rw [nB] at this
      cases this
    have S3 := J3.suite he3 hd3 na nL nF
    refine wpAny_handleBy_cons (codeAny_handlers_test ?_) (by intro q; cases q)
    have LT : PySem.W.Looks (model X.prog X.w) h3 (typeOf (.ref a)) cls := fun A Q E s k q => wpAny_typeOf_ref (k _ _ he3) (by rw [hz3.1]; exact q)
    have LM := PySem.W.exm_one (M := model X.prog X.w) (J3.kIn) LT hb1
    have test : ∀ {Q : Value → Shared → Prop} {E : Value → Shared → Prop}, Q c { s' with heap := h3 } → wpAny (model X.prog X.w) (X.A.mark (some (.ref a))) (eval (.Name x np) X.env) Q E { s' with heap := h3 } := fun {Q E} q => by
      obtain ⟨hg, hdbg, hm | ⟨hm, hv, hnn⟩⟩ := hc
      · exact ld_glob (X := X.suite a ((a, oe3) :: (X.pn ++ pins))) S3 hg hm q hdbg
      · exact ld_blt (X := X.suite a ((a, oe3) :: (X.pn ++ pins))) S3 hg hm hv q hnn hdbg
    refine test (LM.here ?_)
    cases b with
    | true =>
      refine codeAny_handlers_suite_as (HandSPX.lands_againZ fl3 fun h4 fl4 up4 => ?_)
      have J4 : L2.Inv X pins σ1 H1 { s' with heap := h4 } := J.landed nb fl4.1 ((up.trans up3).trans up4) os ag
      obtain ⟨oe4, vs4, he4, hz4, hd4⟩ := fl4.there
      refine store_ok (X := X.suite a ((a, oe4) :: (X.pn ++ pins))) (v := .ref a) (J4.suite he4 hd4 na nL nF) hN hi (.inl hln) rfl (fun s5 S5 => ?_) (.inr hln)
      refine wpAny_mono ((hsu a oe4 cls d (X.pn ++ pins) hz4 ⟨_, hd4⟩).run [] s5 _ H1 _ S5 (hyes rfl a na)) (fun f s6 hsp => ?_) (fun _ _ z => False.elim z)
      have end_ : ∀ {σ6 : L2.St} {H6 : Hp} {Q : Shared → Prop}, L2.Inv (X.suite a ((a, oe4) :: (X.pn ++ pins))) [] σ6 H6 s6 → (∀ s7, L2.Inv X pins (σ6.set i none) H6 s7 → Q s7) →
          wpAny (model X.prog X.w) X.A (do bindName X.env n .none; unbindBehindTheSuite X.env n pos') (fun _ s7 => Q s7) X.xe s6 := fun {σ6 H6 Q} S6 hq => gone_ok (S6.unsuite ok) hN hi hln hq
      cases f with
      | next =>
        obtain ⟨σ6, H6, S6, q6⟩ := hsp
        have S7 := inv_pinned S6 ok
        have n6 := (S7.pin (a, oe4) (List.mem_append_right _ List.mem_cons_self)).2.1
        exact gone_ok S7 hN hi hln fun s7 J7 => ⟨_, _, inv_keep J7 n0 hpa hz4 hd4, q6 n6⟩
      | brk =>
        obtain ⟨σ6, H6, S6, q6⟩ := hsp
        exact end_ S6 fun s7 J7 => ⟨_, _, J7, q6⟩
      | cont =>
        obtain ⟨σ6, H6, S6, q6⟩ := hsp
        exact end_ S6 fun s7 J7 => ⟨_, _, J7, q6⟩
      | ret u =>
        obtain ⟨v6, σ6, H6, S6, r6, q6⟩ := hsp
        exact end_ S6 fun s7 J7 => ⟨_, _, _, J7, r6, q6⟩
    | false =>
      show wpAny _ X.A (handleBy (.ref a) X.env []) _ _ _
      refine wpAny_handleBy_nil ?_
      obtain ⟨k1, k2, k3, oe, vs, T, oT, ts', he, hz, hd, h1, hr⟩ := id fl3
      unfold PySem.passOn
      refine wpAny_bind (wpAny_field he hd h1 ?_)
      rw [if_neg (show ¬ ((Value.ref T == Value.none) = true) from by simp)]
      have fin : wpAny (model X.prog X.w) X.A (setFlight (.ref a) X.env.frame) (fun _ s4 => wpAny (model X.prog X.w) X.A (throw (.ref a) : Sem Flow) (SP X pins D) X.xe s4) X.xe { s' with heap := h3 } := by
        rw [hf]
        exact HandSPX.setFlight_upZ fl3 fun h4 hh4 up4 => wpAny_throw (tk _ _ ⟨a, B, sI, pins, σ1, H1, cls, d, rfl, J, nb, (up.trans up3).trans up4, .inr (.inr (by rw [hs]; exact hh4)), na, os, ag, hno rfl⟩)
      first
        | exact wpAny_bind (wpAny_pure (wpAny_bind fin))
        | exact wpAny_bind fin
  · cases f with
    | next =>
      obtain ⟨σ1, H1, J1, q⟩ := hsp
      exact wpAny_execs_nil ⟨σ1, H1, J1.ofTry ok, q⟩
    | brk =>
      obtain ⟨σ1, H1, J1, q⟩ := hsp
      exact ⟨σ1, H1, J1.ofTry ok, q⟩
    | cont =>
      obtain ⟨σ1, H1, J1, q⟩ := hsp
      exact ⟨σ1, H1, J1.ofTry ok, q⟩
    | ret u =>
      obtain ⟨v, σ1, H1, J1, r, q⟩ := hsp
      exact ⟨v, σ1, H1, J1.ofTry ok, r, q⟩
end

/-! ## isinstance of errors -/
/-- .. of the one that the suite holds -/
def rIsS (K : PySem.W.Frag) (cls : Value) (d : Option Addr) (a : Addr) : List V → Hp → VK → Prop := fun xs H Q => d = none ∧ ∃ D, cls = .ref D ∧ ExcC K D ∧ rIsE K D a xs H Q
theorem call_isS {X : Cx} {a : Addr} {cls : Value} {d : Option Addr} {oe : Obj} {pn : List (Addr × Obj)} (hz : Zc cls d oe) (hf : ∃ vs, oe.data = .fields vs) : CallR (X.suite a ((a, oe) :: pn)) (.builtin "isinstance") (rIsS X.K cls d a) := by
  intro pins s σ H xs us Q I r h
  obtain ⟨rfl, D, rfl, hC, h⟩ := h
  exact call_isE hC hz hf pins s σ H xs us Q I r h
theorem inst_kept {X : Cx} {pins : List (Addr × Obj)} {σ : L2.St} {H : Hp} {s : Shared} {a D : Addr} (I : L2.Inv X pins σ H s) (h : H a = some (ExB (.ref D) none a)) : ∃ oe, PySem.W.InstAt s.heap a oe D none := by
  obtain ⟨⟨oe, vs, ho, hz, hd⟩, _, _⟩ := I.hok a _ h
  obtain ⟨oc, od, oda, osl⟩ := oe
  obtain ⟨h1, h2⟩ := hz
  dsimp only at h1 h2 hd
  subst h1 h2 hd
  exact ⟨_, ho, rfl, rfl, trivial⟩
/-- .. of a kept one -/
def rIsB (K : PySem.W.Frag) : List V → Hp → VK → Prop := fun xs H Q => ∃ (a D : Addr) (c : V) (cv : Value) (b : Bool), xs = [.ref a, c] ∧ H a = some (ExB (.ref D) none a) ∧ ExcC K D ∧ (∀ u, RelV c u → u = cv) ∧ PySem.W.kitOne K (.ref D) cv = some b ∧ Q (.bl b) H
theorem call_isB {X : Cx} : CallR X (.builtin "isinstance") (rIsB X.K) := by
  intro pins s σ H xs us Q I r h
  obtain ⟨a, D, c, cv, b, rfl, ha, C, hcv, e, q⟩ := h
  obtain ⟨oe, J⟩ := inst_kept I ha
  cases r with
  | cons rx rr =>
    cases rr with
    | cons rt rr =>
      cases rr
      cases rx
      have ec := hcv _ rt
      subst ec
      exact PySem.W.kia_one (PySem.W.handS_kitx_exc C.hg C.hk C.hs C.hd C.ha C.hn C.ht C.hm) I.kIn J e (fun z => nomatch z) fun tk => ⟨.bl b, H, I.kept (t' := tk) fun _ _ z => z, rfl, q⟩
/-- .. among several classes -/
def rIsBT (K : PySem.W.Frag) : List V → Hp → VK → Prop := fun xs H Q => ∃ (a D t : Addr) (cs : List Addr) (b : Bool), xs = [.ref a, .ref t] ∧ H a = some (ExB (.ref D) none a) ∧ H t = some (.tup (cs.map V.ref)) ∧ ExcC K D ∧ PySem.W.kitAny K (.ref D) (cs.map Value.ref) = some b ∧ Q (.bl b) H
theorem vals_refs : ∀ {cs : List Addr} {us : List Value}, Vals (cs.map V.ref) us → us = cs.map Value.ref
  | [], _, .nil => rfl
  | c :: cs, _, .cons r t => by
    have e := vals_refs t
    cases (show _ = Value.ref c from r)
    rw [e, List.map_cons]
theorem call_isBT {X : Cx} : CallR X (.builtin "isinstance") (rIsBT X.K) := by
  intro pins s σ H xs us Q I r h
  obtain ⟨a, D, t, cs, b, rfl, ha, ht, C, e, q⟩ := h
  obtain ⟨oe, J⟩ := inst_kept I ha
  obtain ⟨_, its, rv, ⟨o, ho, hc, n, hd⟩⟩ := I.hok t _ ht
  have ev := vals_refs rv
  subst ev
  obtain ⟨oc, od, oda, osl⟩ := o
  dsimp only at hc hd
  subst hc hd
  cases r with
  | cons rx rr =>
    cases rr with
    | cons rt rr =>
      cases rr
      cases rx
      cases rt
      exact PySem.W.kia_tup (PySem.W.handS_kitx_exc C.hg C.hk C.hs C.hd C.ha C.hn C.ht C.hm) I.kIn J ho e (fun z => nomatch z) fun tk => ⟨.bl b, H, I.kept (t' := tk) fun _ _ z => z, rfl, q⟩

/-! ## what the top says of the errors' classes -/
structure ExT (K : PySem.W.Frag) (mg : Str → Option Value) (x : Str) : Type where
  C : Addr
  g : mg x = some (.ref C)
  k : PySem.W.keepIn K (.ref C) = true
  hd : PySem.W.hasDictIn K C = true
  ty : PySem.W.typeIn K (.ref C) = some (.type "type")
  sb : PySem.W.subIn K (.ref C) (.type "BaseException") = some true
  sl : PySem.W.subIn K (.ref C) (.ref C) = some true
structure RzT (K : PySem.W.Frag) (C : Addr) : Prop where
  q : PySem.W.excIn K C [.type "ValueError", .type "Exception", .type "BaseException", .type "object"] "ValueError.__new__" = true
  E : ExcC K C
  ty : PySem.W.typeIn K (.ref C) = some (.type "type")
  sv : PySem.W.subIn K (.ref C) (.type "ValueError") = some true
theorem RzT.rz {K : PySem.W.Frag} {C : Addr} (h : RzT K C) {X : Cx} (hK : X.K = K := by rfl) : Raises X (.ref C) := by
  subst hK
  exact raises_own h.E.hs h.ty
theorem pe_cls {X : Cx} {x : Str} {pos : Pos} {C : Addr} (h : X.mg x = some (.ref C)) (hg : Gl X x := by rfl) (hd : (x == ("__debug__" : Str)) = false := by decide) : PE X (.Name x pos) (tC (.ref C)) := pe_glob hg h rfl hd
theorem kit_self {K : PySem.W.Frag} {C : Addr} : PySem.W.kitOne K (.ref C) (.ref C) = some true := if_pos (beq_self_eq_true _)
theorem kit_ref {K : PySem.W.Frag} {mg : Str → Option Value} {x : Str} {D : Addr} {b : Bool} (t : ExT K mg x) (hD : PySem.W.subIn K (.ref D) (.ref D) = some true) (h : PySem.W.subIn K (.ref D) (.ref t.C) = some b) : PySem.W.kitOne K (.ref D) (.ref t.C) = some b := by
  unfold PySem.W.kitOne
  by_cases e : (Value.ref D == Value.ref t.C) = true
  · rw [if_pos e]
    cases eq_of_beq e
    rw [hD] at h
    exact h
  · rw [if_neg e]
    obtain ⟨cd, hc, _⟩ := PySem.W.any_some t.hd
    show (if ((PySem.W.clsIn K t.C).isSome && PySem.W.typeIn K (.ref t.C) == some (.type "type")) = true then PySem.W.subIn K (.ref D) (.ref t.C) else none) = some b
    rw [hc, t.ty]
    exact h
theorem kit_val {K : PySem.W.Frag} {D : Addr} {n : String} {b : Bool} (hm : PySem.W.kitMeta n = true) (h : PySem.W.subIn K (.ref D) (.type n) = some b) : PySem.W.kitOne K (.ref D) (.type n) = some b := by
  unfold PySem.W.kitOne
  rw [if_neg (fun z => by cases eq_of_beq z)]
  show (if PySem.W.kitMeta n = true then PySem.W.subIn K (.ref D) (.type n) else none) = some b
  rw [if_pos hm]
  exact h
theorem exm_of {K : PySem.W.Frag} {mg : Str → Option Value} {x : Str} {D : Addr} {b : Bool} (t : ExT K mg x) (h : PySem.W.subIn K (.ref D) (.ref t.C) = some b) : PySem.W.exmOne K (.ref D) (.ref t.C) = some b := PySem.W.exm_ref t.sb t.hd t.ty h
theorem kit_cons {K : PySem.W.Frag} {t c : Value} {cs : List Value} {b : Bool} (h : PySem.W.kitOne K t c = some false) (hr : PySem.W.kitAny K t cs = some b) : PySem.W.kitAny K t (c :: cs) = some b := by
  unfold PySem.W.kitAny
  rw [h]
  exact hr
theorem kit_nil {K : PySem.W.Frag} {t : Value} : PySem.W.kitAny K t [] = some false := rfl

/-! ## f(e, .., k = v, ..) in a try -/
section
variable {X : Cx} {CX : CXT} {k n : Nat} {f : Addr} {fd : FuncData} {ps ks : List Str} {sp : Sp} {E : L2.St → XK} {x : Str} {p pos : Pos} {e : PySem.Expr} {es : List PySem.Expr} {kws : List Keyword} {ta tk : TA} {g : List Value → List Value → List Value} {gV : List V → List V → List V}
def tCallNS (n m : Nat) (sp : Sp) (gV : List V → List V → List V) (E : L2.St → XK) (ta tk : TA) : TE := fun σ H Q => ta σ H fun vs H1 => tk σ H1 fun zs H2 => vs.length = n ∧ zs.length = m ∧ sp (gV vs zs) H2 Q (E σ)
theorem pe_callNS (F : FnOk X.prog X.w X.K X.mg X.base CX k f fd ps sp) (hr : Room k X.A) (hg : Gl X x) (hm : X.mg x = some (.ref f)) (hk : PySem.W.keepIn X.K (.ref f) = true) (hb : KBn X.K fd ps n ks g gV) (hx : ∀ σ, PassesAt CX X σ (E σ))
    (ha : PA X (e :: es) ta) (hkw : PK X kws tk) (hall : (backToKw pos (keywordEach kws X.env)).all (·.1.isSome) = true := by rfl) (hks : (backToKw pos (keywordEach kws X.env)).filterMap (·.1) = ks := by rfl)
    (hdb : (x == ("__debug__" : Str)) = false := by decide) (he : starEach (e :: es) X.env = (false, eval e X.env) :: starEach es X.env := by rfl)
    (hpl : ((backTo pos (starEach (e :: es) X.env)).any (·.1) || (backToKw pos (keywordEach kws X.env)).any (·.1.isNone)) = false := by rfl) :
    PE X (.Call (.Name x p) (e :: es) kws pos) (tCallNS n ks.length sp gV E ta tk) := by
  constructor
  intro pins s σ H Q I h
  refine wpAny_Call_Name_kw (ld_glob I hg hm ?_ hdb)
  refine PySem.W.callWith_KW (h₀ := X.base) I.ok.mod.kin hk hall (thn (ha.run pos pins s σ H _ I h) fun us s1 hh1 => ?_) hpl he
  obtain ⟨vs, H1, I1, r, q⟩ := hh1
  refine thn (hkw.run pos pins s1 σ H1 _ I1 q) fun ws s2 hh2 => ?_
  obtain ⟨zs, H2, I2, rz, l1, l2, q2⟩ := hh2
  refine ⟨I2.kIn, ?_⟩
  rw [hks]
  refine wpAny_call (codeAny_mono (F.run X.A X.stack s2 H2 ⟨us, ks.zip ws⟩ (g us ws) (gV vs zs) Q (E σ) hr I2.env0 (hb.to s2 us ws I2.kIn (r.length.symm.trans l1) (rz.length.symm.trans l2)) (hb.rel r rz) q2) (fun r s' hq => ?_))
  match r, hq with
  | .error e, hq => exact hx σ pins H2 s2 e s' I2 hq
  | .ok (.ret u), hq => exact I2.after hq
end
/-! ## promises put together -/
section
variable {P : Program} {w : World} {K : PySem.W.Frag} {mg : Str → Option Value} {base : Heap} {C : CXT} {k : Nat} {f : Addr} {fd : FuncData} {ps : List Str} {sp sp' : Sp}
theorem FnOk.or (F : FnOk P w K mg base C k f fd ps sp) (G : FnOk P w K mg base C k f fd ps sp') : FnOk P w K mg base C k f fd ps (fun vs H Q E => sp vs H Q E ∨ sp' vs H Q E) :=
  ⟨fun vs H Q E h => h.elim (F.len vs H Q E) (G.len vs H Q E), fun A outer s H args us vs Q E r e b v h => h.elim (F.run A outer s H args us vs Q E r e b v) (G.run A outer s H args us vs Q E r e b v)⟩
/-- what raises nothing keeps its promise where errors are let out -/
theorem FnOk.x (F : FnOk P w K mg base CX0 k f fd ps sp) : FnOk P w K mg base (L2.CX P w) k f fd ps sp :=
  ⟨F.len, fun A outer s H args us vs Q E r e b v h => codeAny_mono (F.run A outer s H args us vs Q E r e b v h) fun rs s' hq => by
    match rs, hq with
    | .error e, hq => exact hq.elim
    | .ok (.ret u), hq => exact hq⟩
end
/-! ## xs.count(x) of flat things -/
def rCntF (K : PySem.W.Frag) : V → List V → Hp → VK → Prop := fun x xs H Q => ∃ (a : Addr) (ys : List V) (y : V), x = V.ref a ∧ xs = [y] ∧ SqL K H a ys ∧ flatV y = true ∧ ys.all flatV = true ∧ Q (.int ((ys.countP fun z => eqV z y : Nat) : Int)) H
theorem countP_vals {y : V} : ∀ {ys : List V} {its : List Value}, Vals ys its → ys.all flatV = true → its.countP (eqU y) = ys.countP fun z => eqV z y
  | [], _, .nil, _ => rfl
  | z :: ys, u :: us, .cons r t, f => by
    rw [List.all_cons, Bool.and_eq_true] at f
    rw [List.countP_cons, List.countP_cons, countP_vals t f.2, eqU_of r f.1]
theorem mt_countF {X : Cx} : MtR X "list.count" (rCntF X.K) := by
  intro pins s σ H x xs v us Q I rx rxs h
  obtain ⟨a, ys, y, rfl, rfl, hs, fy, fys, q⟩ := h
  cases rx
  cases rxs with
  | cons ry rt =>
    rename_i uy ut
    cases rt
    obtain ⟨its, rv, ⟨⟨cls, dd, data, sl⟩, n, ho, hc, hdn, hd⟩, hlen⟩ := I.list hs
    simp only at hc hd
    subst hc hd
    refine call_meets PySem.F.slot_list_count ⟨_, ho, rfl⟩ PySem.F.entry_list_count (PySem.F.args_list_count_2 _ _) (SeqAt.list_countAt a its.toArray n dd sl uy (eqU y)) ⟨ho, fun u' hu' => mem_eqAt ry fy rv fys u' (by simpa using hu'), ?_⟩
    refine ⟨.int _, H, I.tok _, ⟨s.toks, ?_⟩, q⟩
    show Value.int ((its.toArray.toList.countP (eqU y) : Nat) : Int) s.toks = _
    rw [List.toList_toArray, countP_vals rv fys]
end BK

namespace BK
open PySem PySem.Spec PyProof.Rows L2
def topS (i : Nat) : Stmt := PySem.Challenge.pw_blindkeys_k05_texts_refused.main.body.getD i (.Pass ⟨0, 0, 0, 0⟩)
abbrev s_is_row : Stmt := topS 23
abbrev N_is_row : List Str := ["thing"]
theorem sc_is_row : FnScope N_is_row ["thing"] (defScope s_is_row) := ⟨rfl, rfl, rfl, by decide +kernel, rfl, by decide +kernel, by decide +kernel⟩
abbrev s_is_whole : Stmt := topS 24
abbrev N_is_whole : List Str := ["thing", "low"]
theorem sc_is_whole : FnScope N_is_whole ["thing", "low"] (defScope s_is_whole) := ⟨rfl, rfl, rfl, by decide +kernel, rfl, by decide +kernel, by decide +kernel⟩
abbrev s_is_within : Stmt := topS 25
abbrev N_is_within : List Str := ["thing", "low", "high"]
theorem sc_is_within : FnScope N_is_within ["thing", "low", "high"] (defScope s_is_within) := ⟨rfl, rfl, rfl, by decide +kernel, rfl, by decide +kernel, by decide +kernel⟩
abbrev s_is_plain : Stmt := topS 26
abbrev N_is_plain : List Str := ["thing"]
theorem sc_is_plain : FnScope N_is_plain ["thing"] (defScope s_is_plain) := ⟨rfl, rfl, rfl, by decide +kernel, rfl, by decide +kernel, by decide +kernel⟩
abbrev s_is_letter : Stmt := topS 27
abbrev N_is_letter : List Str := ["thing"]
theorem sc_is_letter : FnScope N_is_letter ["thing"] (defScope s_is_letter) := ⟨rfl, rfl, rfl, by decide +kernel, rfl, by decide +kernel, by decide +kernel⟩
abbrev s_is_clip : Stmt := topS 28
abbrev N_is_clip : List Str := ["thing"]
theorem sc_is_clip : FnScope N_is_clip ["thing"] (defScope s_is_clip) := ⟨rfl, rfl, rfl, by decide +kernel, rfl, by decide +kernel, by decide +kernel⟩
abbrev s_is_word : Stmt := topS 29
abbrev N_is_word : List Str := ["thing"]
theorem sc_is_word : FnScope N_is_word ["thing"] (defScope s_is_word) := ⟨rfl, rfl, rfl, by decide +kernel, rfl, by decide +kernel, by decide +kernel⟩
abbrev s_is_piece : Stmt := topS 35
abbrev N_is_piece : List Str := ["thing"]
theorem sc_is_piece : FnScope N_is_piece ["thing"] (defScope s_is_piece) := ⟨rfl, rfl, rfl, by decide +kernel, rfl, by decide +kernel, by decide +kernel⟩
abbrev s_is_text : Stmt := topS 36
abbrev N_is_text : List Str := ["thing", "many", "piece"]
theorem sc_is_text : FnScope N_is_text ["thing"] (defScope s_is_text) := ⟨rfl, rfl, rfl, by decide +kernel, rfl, by decide +kernel, by decide +kernel⟩
abbrev s_check_text : Stmt := topS 37
abbrev N_check_text : List Str := ["thing"]
theorem sc_check_text : FnScope N_check_text ["thing"] (defScope s_check_text) := ⟨rfl, rfl, rfl, by decide +kernel, rfl, by decide +kernel, by decide +kernel⟩
abbrev s_check_letter : Stmt := topS 38
abbrev N_check_letter : List Str := ["thing"]
theorem sc_check_letter : FnScope N_check_letter ["thing"] (defScope s_check_letter) := ⟨rfl, rfl, rfl, by decide +kernel, rfl, by decide +kernel, by decide +kernel⟩
abbrev s_spans_of : Stmt := topS 39
abbrev N_spans_of : List Str := ["text", "spans", "start", "word", "times", "stop"]
theorem sc_spans_of : FnScope N_spans_of ["text"] (defScope s_spans_of) := ⟨rfl, rfl, rfl, by decide +kernel, rfl, by decide +kernel, by decide +kernel⟩
abbrev s_end_of : Stmt := topS 40
abbrev N_end_of : List Str := ["spans"]
theorem sc_end_of : FnScope N_end_of ["spans"] (defScope s_end_of) := ⟨rfl, rfl, rfl, by decide +kernel, rfl, by decide +kernel, by decide +kernel⟩
abbrev s_stretch : Stmt := topS 41
abbrev N_stretch : List Str := ["word", "at", "many", "first", "enough"]
theorem sc_stretch : FnScope N_stretch ["word", "at", "many"] (defScope s_stretch) := ⟨rfl, rfl, rfl, by decide +kernel, rfl, by decide +kernel, by decide +kernel⟩
abbrev s_look : Stmt := topS 42
abbrev N_look : List Str := ["spans", "place", "many", "seen", "start", "stop", "word", "low", "high"]
theorem sc_look : FnScope N_look ["spans", "place", "many"] (defScope s_look) := ⟨rfl, rfl, rfl, by decide +kernel, rfl, by decide +kernel, by decide +kernel⟩
abbrev s_among : Stmt := topS 43
abbrev N_among : List Str := ["word", "sign", "many", "words", "rest"]
theorem sc_among : FnScope N_among ["word", "sign", "many"] (defScope s_among) := ⟨rfl, rfl, rfl, by decide +kernel, rfl, by decide +kernel, by decide +kernel⟩
abbrev s_nth_again : Stmt := topS 44
abbrev N_nth_again : List Str := ["word", "sign", "number", "places", "words", "rest", "at"]
theorem sc_nth_again : FnScope N_nth_again ["word", "sign", "number"] (defScope s_nth_again) := ⟨rfl, rfl, rfl, by decide +kernel, rfl, by decide +kernel, by decide +kernel⟩
abbrev s_split_at : Stmt := topS 45
abbrev N_split_at : List Str := ["one", "other", "shorter", "at"]
theorem sc_split_at : FnScope N_split_at ["one", "other"] (defScope s_split_at) := ⟨rfl, rfl, rfl, by decide +kernel, rfl, by decide +kernel, by decide +kernel⟩
abbrev s_letter : Stmt := topS 46
abbrev N_letter : List Str := ["text", "place", "spans"]
theorem sc_letter : FnScope N_letter ["text", "place"] (defScope s_letter) := ⟨rfl, rfl, rfl, by decide +kernel, rfl, by decide +kernel, by decide +kernel⟩
abbrev s_looks : Stmt := topS 47
abbrev N_looks : List Str := ["text", "place", "many", "spans"]
theorem sc_looks : FnScope N_looks ["text", "place", "many"] (defScope s_looks) := ⟨rfl, rfl, rfl, by decide +kernel, rfl, by decide +kernel, by decide +kernel⟩
abbrev s_count : Stmt := topS 48
abbrev N_count : List Str := ["text", "sign", "many", "spans", "told", "start", "stop", "word"]
theorem sc_count : FnScope N_count ["text", "sign", "many"] (defScope s_count) := ⟨rfl, rfl, rfl, by decide +kernel, rfl, by decide +kernel, by decide +kernel⟩
abbrev s_nth : Stmt := topS 49
abbrev N_nth : List Str := ["text", "sign", "number", "passed", "start", "stop", "word", "here"]
theorem sc_nth : FnScope N_nth ["text", "sign", "number"] (defScope s_nth) := ⟨rfl, rfl, rfl, by decide +kernel, rfl, by decide +kernel, by decide +kernel⟩
abbrev s_first_unlike : Stmt := topS 50
abbrev N_first_unlike : List Str := ["text", "other", "mine", "others", "low", "high", "many", "one", "two", "span"]
theorem sc_first_unlike : FnScope N_first_unlike ["text", "other"] (defScope s_first_unlike) := ⟨rfl, rfl, rfl, by decide +kernel, rfl, by decide +kernel, by decide +kernel⟩
abbrev s__law_spring : Stmt := topS 52
abbrev N__law_spring : List Str := ["script", "figures", "stir", "cell"]
theorem sc__law_spring : FnScope N__law_spring ["script"] (defScope s__law_spring) := ⟨rfl, rfl, rfl, by decide +kernel, rfl, by decide +kernel, by decide +kernel⟩
abbrev s__law_draw : Stmt := topS 53
abbrev N__law_draw : List Str := ["spring", "many", "found", "stir"]
theorem sc__law_draw : FnScope N__law_draw ["spring", "many"] (defScope s__law_draw) := ⟨rfl, rfl, rfl, by decide +kernel, rfl, by decide +kernel, by decide +kernel⟩
abbrev s__law_word : Stmt := topS 54
abbrev N__law_word : List Str := ["spring", "most", "kinds", "k"]
theorem sc__law_word : FnScope N__law_word ["spring", "most"] (defScope s__law_word) := ⟨rfl, rfl, rfl, by decide +kernel, rfl, by decide +kernel, by decide +kernel⟩
abbrev s__law_text : Stmt := topS 55
abbrev N__law_text : List Str := ["spring", "most", "wide", "times", "found", "k"]
theorem sc__law_text : FnScope N__law_text ["spring", "most", "wide", "times"] (defScope s__law_text) := ⟨rfl, rfl, rfl, by decide +kernel, rfl, by decide +kernel, by decide +kernel⟩
abbrev s__law_no_text : Stmt := topS 57
abbrev N__law_no_text : List Str := ["spring", "text", "at", "some", "wrong"]
theorem sc__law_no_text : FnScope N__law_no_text ["spring", "text"] (defScope s__law_no_text) := ⟨rfl, rfl, rfl, by decide +kernel, rfl, by decide +kernel, by decide +kernel⟩
abbrev s__law_which : Stmt := topS 58
abbrev N__law_which : List Str := ["caught", "some", "others", "words"]
theorem sc__law_which : FnScope N__law_which ["caught"] (defScope s__law_which) := ⟨rfl, rfl, rfl, by decide +kernel, rfl, by decide +kernel, by decide +kernel⟩
abbrev s__law_asked : Stmt := topS 59
abbrev N__law_asked : List Str := ["ask", "text", "one", "other", "caught", "e"]
theorem sc__law_asked : FnScope N__law_asked ["ask", "text", "one", "other"] (defScope s__law_asked) := ⟨rfl, rfl, rfl, by decide +kernel, rfl, by decide +kernel, by decide +kernel⟩
abbrev s_law : Stmt := topS 60
abbrev N_law : List Str := ["script", "spring", "turn", "text", "size", "bad", "odd", "far", "sign", "rows", "stays", "ask", "one", "other", "due", "word", "times"]
theorem sc_law : FnScope N_law ["script"] (defScope s_law) := ⟨rfl, rfl, rfl, by decide +kernel, rfl, by decide +kernel, by decide +kernel⟩
structure FnT (K : PySem.W.Frag) (mg : Str → Option Value) (x : Str) (st : Stmt) (ps : List Str) : Type where
  f : Addr
  fd : FuncData
  F : Fun K x x st f fd
  g : mg x = some (.ref f)
  b : Binds K fd ps []
structure Txt (K : PySem.W.Frag) (mg : Str → Option Value) : Type where
  f_is_row : FnT K mg "is_row" s_is_row ["thing"]
  f_is_whole : FnT K mg "is_whole" s_is_whole ["thing", "low"]
  f_is_within : FnT K mg "is_within" s_is_within ["thing", "low", "high"]
  f_is_plain : FnT K mg "is_plain" s_is_plain ["thing"]
  f_is_letter : FnT K mg "is_letter" s_is_letter ["thing"]
  f_is_clip : FnT K mg "is_clip" s_is_clip ["thing"]
  f_is_word : FnT K mg "is_word" s_is_word ["thing"]
  f_is_piece : FnT K mg "is_piece" s_is_piece ["thing"]
  f_is_text : FnT K mg "is_text" s_is_text ["thing"]
  f_check_text : FnT K mg "check_text" s_check_text ["thing"]
  f_check_letter : FnT K mg "check_letter" s_check_letter ["thing"]
  f_spans_of : FnT K mg "spans_of" s_spans_of ["text"]
  f_end_of : FnT K mg "end_of" s_end_of ["spans"]
  f_stretch : FnT K mg "stretch" s_stretch ["word", "at", "many"]
  f_look : FnT K mg "look" s_look ["spans", "place", "many"]
  f_among : FnT K mg "among" s_among ["word", "sign", "many"]
  f_nth_again : FnT K mg "nth_again" s_nth_again ["word", "sign", "number"]
  f_split_at : FnT K mg "split_at" s_split_at ["one", "other"]
  f_letter : FnT K mg "letter" s_letter ["text", "place"]
  f_looks : FnT K mg "looks" s_looks ["text", "place", "many"]
  f_count : FnT K mg "count" s_count ["text", "sign", "many"]
  f_nth : FnT K mg "nth" s_nth ["text", "sign", "number"]
  f_first_unlike : FnT K mg "first_unlike" s_first_unlike ["text", "other"]
  f__law_spring : FnT K mg "_law_spring" s__law_spring ["script"]
  f__law_draw : FnT K mg "_law_draw" s__law_draw ["spring", "many"]
  f__law_word : FnT K mg "_law_word" s__law_word ["spring", "most"]
  f__law_text : FnT K mg "_law_text" s__law_text ["spring", "most", "wide", "times"]
  f__law_no_text : FnT K mg "_law_no_text" s__law_no_text ["spring", "text"]
  f__law_which : FnT K mg "_law_which" s__law_which ["caught"]
  f__law_asked : FnT K mg "_law_asked" s__law_asked ["ask", "text", "one", "other"]
  f_law : FnT K mg "law" s_law ["script"]
  b_ValueError : mg "ValueError" = none
  b_abs : mg "abs" = none
  b_divmod : mg "divmod" = none
  b_int : mg "int" = none
  b_isinstance : mg "isinstance" = none
  b_len : mg "len" = none
  b_list : mg "list" = none
  b_max : mg "max" = none
  b_min : mg "min" = none
  b_range : mg "range" = none
  b_repr : mg "repr" = none
  b_sorted : mg "sorted" = none
  b_str : mg "str" = none
  b_sum : mg "sum" = none
  b_tuple : mg "tuple" = none
  b_type : mg "type" = none
  x_NoText : ExT K mg "NoText"
  x_NoLetter : ExT K mg "NoLetter"
  x_NoPlace : ExT K mg "NoPlace"
  x_NoNumber : ExT K mg "NoNumber"
  x_NoRings : ExT K mg "NoRings"
  x_Full : ExT K mg "Full"
  x_NoLengths : ExT K mg "NoLengths"
  x_NoName : ExT K mg "NoName"
  x_NoRow : ExT K mg "NoRow"
  x_NoSeen : ExT K mg "NoSeen"
  x_Nothing : ExT K mg "Nothing"
  x_NoWriting : ExT K mg "NoWriting"
  x_TooMany : ExT K mg "TooMany"
  x_KeysError : ExT K mg "KeysError"
  x_NoHand : ExT K mg "NoHand"
  x_NoSheet : ExT K mg "NoSheet"
  x_NoTimes : ExT K mg "NoTimes"
  x_NoStand : ExT K mg "NoStand"
  x_NoPlay : ExT K mg "NoPlay"
  r_NoText : RzT K x_NoText.C
  r_NoLetter : RzT K x_NoLetter.C
  r_NoPlace : RzT K x_NoPlace.C
  r_NoNumber : RzT K x_NoNumber.C
  s_NoText_NoLetter : PySem.W.subIn K (.ref x_NoText.C) (.ref x_NoLetter.C) = some false
  s_NoText_NoPlace : PySem.W.subIn K (.ref x_NoText.C) (.ref x_NoPlace.C) = some false
  s_NoText_NoNumber : PySem.W.subIn K (.ref x_NoText.C) (.ref x_NoNumber.C) = some false
  s_NoText_NoRings : PySem.W.subIn K (.ref x_NoText.C) (.ref x_NoRings.C) = some false
  s_NoText_Full : PySem.W.subIn K (.ref x_NoText.C) (.ref x_Full.C) = some false
  s_NoText_NoLengths : PySem.W.subIn K (.ref x_NoText.C) (.ref x_NoLengths.C) = some false
  s_NoText_NoName : PySem.W.subIn K (.ref x_NoText.C) (.ref x_NoName.C) = some false
  s_NoText_NoRow : PySem.W.subIn K (.ref x_NoText.C) (.ref x_NoRow.C) = some false
  s_NoText_NoSeen : PySem.W.subIn K (.ref x_NoText.C) (.ref x_NoSeen.C) = some false
  s_NoText_Nothing : PySem.W.subIn K (.ref x_NoText.C) (.ref x_Nothing.C) = some false
  s_NoText_NoWriting : PySem.W.subIn K (.ref x_NoText.C) (.ref x_NoWriting.C) = some false
  s_NoText_TooMany : PySem.W.subIn K (.ref x_NoText.C) (.ref x_TooMany.C) = some false
  s_NoText_KeysError : PySem.W.subIn K (.ref x_NoText.C) (.ref x_KeysError.C) = some true
  s_NoText_NoHand : PySem.W.subIn K (.ref x_NoText.C) (.ref x_NoHand.C) = some false
  s_NoText_NoSheet : PySem.W.subIn K (.ref x_NoText.C) (.ref x_NoSheet.C) = some false
  s_NoText_NoTimes : PySem.W.subIn K (.ref x_NoText.C) (.ref x_NoTimes.C) = some false
  s_NoText_NoStand : PySem.W.subIn K (.ref x_NoText.C) (.ref x_NoStand.C) = some false
  s_NoText_NoPlay : PySem.W.subIn K (.ref x_NoText.C) (.ref x_NoPlay.C) = some false
  s_NoLetter_NoText : PySem.W.subIn K (.ref x_NoLetter.C) (.ref x_NoText.C) = some false
  s_NoLetter_NoPlace : PySem.W.subIn K (.ref x_NoLetter.C) (.ref x_NoPlace.C) = some false
  s_NoLetter_NoNumber : PySem.W.subIn K (.ref x_NoLetter.C) (.ref x_NoNumber.C) = some false
  s_NoLetter_NoRings : PySem.W.subIn K (.ref x_NoLetter.C) (.ref x_NoRings.C) = some false
  s_NoLetter_Full : PySem.W.subIn K (.ref x_NoLetter.C) (.ref x_Full.C) = some false
  s_NoLetter_NoLengths : PySem.W.subIn K (.ref x_NoLetter.C) (.ref x_NoLengths.C) = some false
  s_NoLetter_NoName : PySem.W.subIn K (.ref x_NoLetter.C) (.ref x_NoName.C) = some false
  s_NoLetter_NoRow : PySem.W.subIn K (.ref x_NoLetter.C) (.ref x_NoRow.C) = some false
  s_NoLetter_NoSeen : PySem.W.subIn K (.ref x_NoLetter.C) (.ref x_NoSeen.C) = some false
  s_NoLetter_Nothing : PySem.W.subIn K (.ref x_NoLetter.C) (.ref x_Nothing.C) = some false
  s_NoLetter_NoWriting : PySem.W.subIn K (.ref x_NoLetter.C) (.ref x_NoWriting.C) = some false
  s_NoLetter_TooMany : PySem.W.subIn K (.ref x_NoLetter.C) (.ref x_TooMany.C) = some false
  s_NoLetter_KeysError : PySem.W.subIn K (.ref x_NoLetter.C) (.ref x_KeysError.C) = some true
  s_NoLetter_NoHand : PySem.W.subIn K (.ref x_NoLetter.C) (.ref x_NoHand.C) = some false
  s_NoLetter_NoSheet : PySem.W.subIn K (.ref x_NoLetter.C) (.ref x_NoSheet.C) = some false
  s_NoLetter_NoTimes : PySem.W.subIn K (.ref x_NoLetter.C) (.ref x_NoTimes.C) = some false
  s_NoLetter_NoStand : PySem.W.subIn K (.ref x_NoLetter.C) (.ref x_NoStand.C) = some false
  s_NoLetter_NoPlay : PySem.W.subIn K (.ref x_NoLetter.C) (.ref x_NoPlay.C) = some false
  s_NoPlace_NoText : PySem.W.subIn K (.ref x_NoPlace.C) (.ref x_NoText.C) = some false
  s_NoPlace_NoLetter : PySem.W.subIn K (.ref x_NoPlace.C) (.ref x_NoLetter.C) = some false
  s_NoPlace_NoNumber : PySem.W.subIn K (.ref x_NoPlace.C) (.ref x_NoNumber.C) = some false
  s_NoPlace_NoRings : PySem.W.subIn K (.ref x_NoPlace.C) (.ref x_NoRings.C) = some false
  s_NoPlace_Full : PySem.W.subIn K (.ref x_NoPlace.C) (.ref x_Full.C) = some false
  s_NoPlace_NoLengths : PySem.W.subIn K (.ref x_NoPlace.C) (.ref x_NoLengths.C) = some false
  s_NoPlace_NoName : PySem.W.subIn K (.ref x_NoPlace.C) (.ref x_NoName.C) = some false
  s_NoPlace_NoRow : PySem.W.subIn K (.ref x_NoPlace.C) (.ref x_NoRow.C) = some false
  s_NoPlace_NoSeen : PySem.W.subIn K (.ref x_NoPlace.C) (.ref x_NoSeen.C) = some false
  s_NoPlace_Nothing : PySem.W.subIn K (.ref x_NoPlace.C) (.ref x_Nothing.C) = some false
  s_NoPlace_NoWriting : PySem.W.subIn K (.ref x_NoPlace.C) (.ref x_NoWriting.C) = some false
  s_NoPlace_TooMany : PySem.W.subIn K (.ref x_NoPlace.C) (.ref x_TooMany.C) = some false
  s_NoPlace_KeysError : PySem.W.subIn K (.ref x_NoPlace.C) (.ref x_KeysError.C) = some true
  s_NoPlace_NoHand : PySem.W.subIn K (.ref x_NoPlace.C) (.ref x_NoHand.C) = some false
  s_NoPlace_NoSheet : PySem.W.subIn K (.ref x_NoPlace.C) (.ref x_NoSheet.C) = some false
  s_NoPlace_NoTimes : PySem.W.subIn K (.ref x_NoPlace.C) (.ref x_NoTimes.C) = some false
  s_NoPlace_NoStand : PySem.W.subIn K (.ref x_NoPlace.C) (.ref x_NoStand.C) = some false
  s_NoPlace_NoPlay : PySem.W.subIn K (.ref x_NoPlace.C) (.ref x_NoPlay.C) = some false
  s_NoNumber_NoText : PySem.W.subIn K (.ref x_NoNumber.C) (.ref x_NoText.C) = some false
  s_NoNumber_NoLetter : PySem.W.subIn K (.ref x_NoNumber.C) (.ref x_NoLetter.C) = some false
  s_NoNumber_NoPlace : PySem.W.subIn K (.ref x_NoNumber.C) (.ref x_NoPlace.C) = some false
  s_NoNumber_NoRings : PySem.W.subIn K (.ref x_NoNumber.C) (.ref x_NoRings.C) = some false
  s_NoNumber_Full : PySem.W.subIn K (.ref x_NoNumber.C) (.ref x_Full.C) = some false
  s_NoNumber_NoLengths : PySem.W.subIn K (.ref x_NoNumber.C) (.ref x_NoLengths.C) = some false
  s_NoNumber_NoName : PySem.W.subIn K (.ref x_NoNumber.C) (.ref x_NoName.C) = some false
  s_NoNumber_NoRow : PySem.W.subIn K (.ref x_NoNumber.C) (.ref x_NoRow.C) = some false
  s_NoNumber_NoSeen : PySem.W.subIn K (.ref x_NoNumber.C) (.ref x_NoSeen.C) = some false
  s_NoNumber_Nothing : PySem.W.subIn K (.ref x_NoNumber.C) (.ref x_Nothing.C) = some false
  s_NoNumber_NoWriting : PySem.W.subIn K (.ref x_NoNumber.C) (.ref x_NoWriting.C) = some false
  s_NoNumber_TooMany : PySem.W.subIn K (.ref x_NoNumber.C) (.ref x_TooMany.C) = some false
  s_NoNumber_KeysError : PySem.W.subIn K (.ref x_NoNumber.C) (.ref x_KeysError.C) = some true
  s_NoNumber_NoHand : PySem.W.subIn K (.ref x_NoNumber.C) (.ref x_NoHand.C) = some false
  s_NoNumber_NoSheet : PySem.W.subIn K (.ref x_NoNumber.C) (.ref x_NoSheet.C) = some false
  s_NoNumber_NoTimes : PySem.W.subIn K (.ref x_NoNumber.C) (.ref x_NoTimes.C) = some false
  s_NoNumber_NoStand : PySem.W.subIn K (.ref x_NoNumber.C) (.ref x_NoStand.C) = some false
  s_NoNumber_NoPlay : PySem.W.subIn K (.ref x_NoNumber.C) (.ref x_NoPlay.C) = some false
  c_ALPHABET : ∃ t, mg "ALPHABET" = some (.str "abcdefghijklmnopqrstuvwxyz" t)
  c_LONGEST_LOOK : ∃ t, mg "LONGEST_LOOK" = some (.int 2000 t)
  c_LONGEST_WORD : ∃ t, mg "LONGEST_WORD" = some (.int 60 t)
  c_MOST_LETTERS : ∃ t, mg "MOST_LETTERS" = some (.int 1000000000000000000000000000000 t)
  c_MOST_PIECES : ∃ t, mg "MOST_PIECES" = some (.int 40 t)
  c_TWO_WORDS : ∃ t, mg "TWO_WORDS" = some (.int 120 t)
theorem pe_c_ALPHABET {X : Cx} {pos : Pos} (T : Txt X.K X.mg) (hg : Gl X "ALPHABET" := by rfl) : PE X (.Name "ALPHABET" pos) (tC (.str "abcdefghijklmnopqrstuvwxyz")) := by
  obtain ⟨t, e⟩ := T.c_ALPHABET
  exact pe_glob hg e ⟨_, rfl⟩
theorem pe_c_LONGEST_LOOK {X : Cx} {pos : Pos} (T : Txt X.K X.mg) (hg : Gl X "LONGEST_LOOK" := by rfl) : PE X (.Name "LONGEST_LOOK" pos) (tC (.int 2000)) := by
  obtain ⟨t, e⟩ := T.c_LONGEST_LOOK
  exact pe_glob hg e ⟨_, rfl⟩
theorem pe_c_LONGEST_WORD {X : Cx} {pos : Pos} (T : Txt X.K X.mg) (hg : Gl X "LONGEST_WORD" := by rfl) : PE X (.Name "LONGEST_WORD" pos) (tC (.int 60)) := by
  obtain ⟨t, e⟩ := T.c_LONGEST_WORD
  exact pe_glob hg e ⟨_, rfl⟩
theorem pe_c_MOST_LETTERS {X : Cx} {pos : Pos} (T : Txt X.K X.mg) (hg : Gl X "MOST_LETTERS" := by rfl) : PE X (.Name "MOST_LETTERS" pos) (tC (.int 1000000000000000000000000000000)) := by
  obtain ⟨t, e⟩ := T.c_MOST_LETTERS
  exact pe_glob hg e ⟨_, rfl⟩
theorem pe_c_MOST_PIECES {X : Cx} {pos : Pos} (T : Txt X.K X.mg) (hg : Gl X "MOST_PIECES" := by rfl) : PE X (.Name "MOST_PIECES" pos) (tC (.int 40)) := by
  obtain ⟨t, e⟩ := T.c_MOST_PIECES
  exact pe_glob hg e ⟨_, rfl⟩
theorem pe_c_TWO_WORDS {X : Cx} {pos : Pos} (T : Txt X.K X.mg) (hg : Gl X "TWO_WORDS" := by rfl) : PE X (.Name "TWO_WORDS" pos) (tC (.int 120)) := by
  obtain ⟨t, e⟩ := T.c_TWO_WORDS
  exact pe_glob hg e ⟨_, rfl⟩
local macro_rules | `(tactic| walk_at "rd") => `(tactic| try dsimp only [tSeq, tNext, tRet, tRetN, tDrop, tIfS, tAsg, tPar, tAug, tVar, tC, tOp, tUn, tCB, tCons, tNil, tTup, tLst, tCall, tTest, tB, tNot, tAnd, tOr, tAndV, tOrV, tNotV, tIf, tIsN, tNotN, tSl, tPart, tNoPart, tM1, tM0, tBM, tBM0, tChain, gName, gTup, gUnl, gCons, gNil, List.nil_append, List.append_nil, List.cons_append])
section
variable {P : Program} {w : World} {K : PySem.W.Frag} {mg : Str → Option Value} {base : Heap}
/-! ## kinds -/
def spIsRow (K : PySem.W.Frag) : Sp := fun vs H Q _ => ∃ v d, vs = [v] ∧ At K H v d ∧ ∀ H', Same H H' → Q (.bl (isRow d)) H'
theorem ok_is_row (T : Txt K mg) : FnOk P w K mg base CX0 1 T.f_is_row.f T.f_is_row.fd ["thing"] (spIsRow K) := by
  refine T.f_is_row.F.ok sc_is_row (fun vs H Q E h => ?_) (fun cdv A outer s H vs Q E hr h => ?_)
  · obtain ⟨v, d, rfl, _⟩ := h
    rfl
  obtain ⟨v, d, rfl, hv, q⟩ := h
  refine ⟨_, (pss_one (ps_ret (pe_cmpR op_in_ty (pe_callTy call_type1 (by rfl) T.b_type (by decide +kernel) (pa_cons (pv 0) pa_nil)) (pe_tup (pa_cons (pe_bltn (v := .ty "list") (by rfl) T.b_list (by decide +kernel) rfl) (pa_cons (pe_bltn (v := .ty "tuple") (by rfl) T.b_tuple (by decide +kernel) rfl) pa_nil))) (by rfl)))), ?_⟩
  walk_at "rd"
  refine ⟨v, rfl, v, d.ty, rfl, hv.ty, (by show 2 ≤ sizeLine; decide), fun p hp => ?_⟩
  refine ⟨d.ty, p, ["list", "tuple"], rfl, rfl, SqT.of upd_same, ty_known d, by decide, ?_⟩
  have e : decide (d.ty ∈ ["list", "tuple"]) = isRow d := by cases d <;> simp [Dt.ty, isRow]
  rw [e]
  exact q _ (same_upd hp)

def spIsWhole (K : PySem.W.Frag) : Sp := fun vs H Q _ => ∃ v d lo, vs = [v, .int lo] ∧ At K H v d ∧ Q (.bl (isWhole d lo)) H
theorem ok_is_whole (T : Txt K mg) : FnOk P w K mg base CX0 1 T.f_is_whole.f T.f_is_whole.fd ["thing", "low"] (spIsWhole K) := by
  refine T.f_is_whole.F.ok sc_is_whole (fun vs H Q E h => ?_) (fun cdv A outer s H vs Q E hr h => ?_)
  · obtain ⟨v, d, lo, rfl, _⟩ := h
    rfl
  obtain ⟨v, d, lo, rfl, hv, q⟩ := h
  refine ⟨_, (pss_one (ps_ret (pe_and (pe_cmpR op_isTyB (pe_callTy call_type1 (by rfl) T.b_type (by decide +kernel) (pa_cons (pv 0) pa_nil)) (pe_bltn (v := .ty "int") (by rfl) T.b_int (by decide +kernel) rfl) (nomark _)) (pe_one (pe_cmpR op_ge (pv 0) (pv 1) (nomark _)))))), ?_⟩
  walk_at "rd"
  refine ⟨v, rfl, v, d.ty, rfl, hv.ty, d.ty, "int", rfl, rfl, _, rfl, ite2 (fun e => ?_) (fun e => ?_)⟩
  · have e2 := of_decide_eq_true e
    cases d with
    | int i =>
      unfold At at hv
      subst hv
      exact ⟨_, rfl, _, rfl, i, lo, rfl, rfl, q⟩
    | _ => exact absurd e2 (by simp [Dt.ty])
  · have e2 : isWhole d lo = false := by
      cases d with
      | int i => exact absurd (decide_eq_true rfl) e
      | _ => rfl
    rw [e2] at q
    exact q

def spIsPlain (K : PySem.W.Frag) : Sp := fun vs H Q _ => ∃ v d, vs = [v] ∧ At K H v d ∧ Q (.bl (isPlain d)) H
theorem ok_is_plain (T : Txt K mg) : FnOk P w K mg base CX0 1 T.f_is_plain.f T.f_is_plain.fd ["thing"] (spIsPlain K) := by
  refine T.f_is_plain.F.ok sc_is_plain (fun vs H Q E h => ?_) (fun cdv A outer s H vs Q E hr h => ?_)
  · obtain ⟨v, d, rfl, _⟩ := h
    rfl
  obtain ⟨v, d, rfl, hv, q⟩ := h
  refine ⟨_, (pss_one (ps_ret (pe_and (pe_cmpR op_isTyB (pe_callTy call_type1 (by rfl) T.b_type (by decide +kernel) (pa_cons (pv 0) pa_nil)) (pe_bltn (v := .ty "str") (by rfl) T.b_str (by decide +kernel) rfl) (nomark _)) (pe_one (pe_cmpR op_eq (pe_m1 PySem.F.slot_str_strip PySem.F.type_str_strip mt_stripChars (pv 0) (pe_c_ALPHABET T)) pe_str (nomark _)))))), ?_⟩
  walk_at "rd"
  refine ⟨v, rfl, v, d.ty, rfl, hv.ty, d.ty, "str", rfl, rfl, _, rfl, ite2 (fun e => ?_) (fun e => ?_)⟩
  · have e2 := of_decide_eq_true e
    cases d with
    | str x =>
      unfold At at hv
      obtain ⟨rfl, hl⟩ := hv
      refine ⟨_, rfl, ⟨_, rfl⟩, _, _, rfl, rfl, (by rw [tx_len]; exact Nat.le_trans hl (by decide)), rfl, ?_⟩
      have e3 : decide (V.str (Txt.stripChars (tx x) ("abcdefghijklmnopqrstuvwxyz" : Str)) = V.str ("" : Str)) = isPlain (.str x) := by
        rw [← tx_alpha, ← tx_nil, Bool.eq_iff_iff, decide_eq_true_iff]
        have := strip_iff x alpha
        constructor
        · intro h
          exact this.mp (V.str.inj h)
        · intro h
          exact congrArg V.str (this.mpr h)
      rw [e3]
      exact q
    | _ => exact absurd e2 (by simp [Dt.ty])
  · have e2 : isPlain d = false := by
      cases d with
      | str i => exact absurd (decide_eq_true rfl) e
      | _ => rfl
    rw [e2] at q
    exact q

def spIsWithin (K : PySem.W.Frag) : Sp := fun vs H Q _ => ∃ v d lo hi, vs = [v, .int lo, .int hi] ∧ At K H v d ∧ Q (.bl (isWithin d lo hi)) H
theorem ok_is_within (T : Txt K mg) : FnOk P w K mg base CX0 2 T.f_is_within.f T.f_is_within.fd ["thing", "low", "high"] (spIsWithin K) := by
  refine T.f_is_within.F.ok sc_is_within (fun vs H Q E h => ?_) (fun cdv A outer s H vs Q E hr h => ?_)
  · obtain ⟨v, d, lo, hi, rfl, _⟩ := h
    rfl
  obtain ⟨v, d, lo, hi, rfl, hv, q⟩ := h
  refine ⟨_, (pss_one (ps_ret (pe_and (pe_call (ok_is_whole T) (hr.mono (by decide)) (by rfl) T.f_is_whole.g T.f_is_whole.F.kp T.f_is_whole.b .nil pass0 (pa_cons (pv 0) (pa_cons (pv 1) pa_nil))) (pe_one (pe_cmpR op_le (pv 0) (pv 2) (nomark _)))))), ?_⟩
  walk_at "rd"
  refine ⟨v, rfl, .int lo, rfl, v, d, lo, rfl, hv, _, rfl, ite2 (fun e => ?_) (fun e => ?_)⟩
  · cases d with
    | int i =>
      unfold At at hv
      subst hv
      rw [show isWithin (.int i) lo hi = (isWhole (.int i) lo && decide (i ≤ hi)) from rfl, e, Bool.true_and] at q
      exact ⟨_, rfl, _, rfl, i, hi, rfl, rfl, q⟩
    | _ => exact absurd e (by simp [isWhole])
  · have e2 : isWithin d lo hi = false := by
      cases d with
      | int i =>
        rw [show isWithin (.int i) lo hi = (isWhole (.int i) lo && decide (i ≤ hi)) from rfl, Bool.eq_false_iff.mpr e, Bool.false_and]
      | _ => rfl
    rw [e2] at q
    exact q

def spStr (f : Dt → Bool) (K : PySem.W.Frag) : Sp := fun vs H Q _ => ∃ v d, vs = [v] ∧ At K H v d ∧ Q (.bl (f d)) H
theorem plain_str {d : Dt} (h : isPlain d = true) : ∃ x, d = .str x ∧ x.all (alpha.contains ·) = true := by
  cases d with
  | str x => exact ⟨x, rfl, h⟩
  | _ => cases h
theorem ok_is_letter (T : Txt K mg) : FnOk P w K mg base CX0 2 T.f_is_letter.f T.f_is_letter.fd ["thing"] (spStr isLetter K) := by
  refine T.f_is_letter.F.ok sc_is_letter (fun vs H Q E h => ?_) (fun cdv A outer s H vs Q E hr h => ?_)
  · obtain ⟨v, d, rfl, _⟩ := h
    rfl
  obtain ⟨v, d, rfl, hv, q⟩ := h
  refine ⟨_, (pss_one (ps_ret (pe_and (pe_call (ok_is_plain T) (hr.mono (by decide)) (by rfl) T.f_is_plain.g T.f_is_plain.F.kp T.f_is_plain.b .nil pass0 (pa_cons (pv 0) pa_nil)) (pe_one (pe_cmpR op_eq (pe_callB (call_lenK K) (by rfl) T.b_len (by decide +kernel) (pa_cons (pv 0) pa_nil)) pe_int (nomark _)))))), ?_⟩
  walk_at "rd"
  refine ⟨v, rfl, v, d, rfl, hv, _, rfl, ite2 (fun e => ?_) (fun e => ?_)⟩
  · obtain ⟨x, rfl, hx⟩ := plain_str e
    unfold At at hv
    obtain ⟨rfl, hl⟩ := hv
    refine ⟨_, rfl, len_tx hl ⟨rfl, ?_⟩⟩
    have e3 : decide (V.int (x.length : Int) = V.int 1) = isLetter (.str x) := by
      rw [show isLetter (.str x) = (isPlain (.str x) && decide (x.length = 1)) from rfl, e, Bool.true_and, Bool.eq_iff_iff, decide_eq_true_iff, decide_eq_true_iff]
      exact ⟨fun h => by have := V.int.inj h; omega, fun h => by rw [h]; rfl⟩
    rw [e3]
    exact q
  · have e2 : isLetter d = false := by
      cases d with
      | str x =>
        rw [show isLetter (.str x) = (isPlain (.str x) && decide (x.length = 1)) from rfl, Bool.eq_false_iff.mpr e, Bool.false_and]
      | _ => rfl
    rw [e2] at q
    exact q
theorem ok_is_clip (T : Txt K mg) : FnOk P w K mg base CX0 2 T.f_is_clip.f T.f_is_clip.fd ["thing"] (spStr isClip K) := by
  refine T.f_is_clip.F.ok sc_is_clip (fun vs H Q E h => ?_) (fun cdv A outer s H vs Q E hr h => ?_)
  · obtain ⟨v, d, rfl, _⟩ := h
    rfl
  obtain ⟨v, d, rfl, hv, q⟩ := h
  refine ⟨_, (pss_one (ps_ret (pe_and (pe_call (ok_is_plain T) (hr.mono (by decide)) (by rfl) T.f_is_plain.g T.f_is_plain.F.kp T.f_is_plain.b .nil pass0 (pa_cons (pv 0) pa_nil)) (pe_one (pe_cmpR op_le (pe_callB (call_lenK K) (by rfl) T.b_len (by decide +kernel) (pa_cons (pv 0) pa_nil)) (pe_c_LONGEST_WORD T) (nomark _)))))), ?_⟩
  walk_at "rd"
  refine ⟨v, rfl, v, d, rfl, hv, _, rfl, ite2 (fun e => ?_) (fun e => ?_)⟩
  · obtain ⟨x, rfl, hx⟩ := plain_str e
    unfold At at hv
    obtain ⟨rfl, hl⟩ := hv
    refine ⟨_, rfl, len_tx hl ⟨_, _, rfl, rfl, ?_⟩⟩
    have e3 : decide ((x.length : Int) ≤ 60) = isClip (.str x) := by
      rw [show isClip (.str x) = (isPlain (.str x) && decide (x.length ≤ 60)) from rfl, e, Bool.true_and, Bool.eq_iff_iff, decide_eq_true_iff, decide_eq_true_iff]
      omega
    rw [← e3] at q
    exact q
  · have e2 : isClip d = false := by
      cases d with
      | str x =>
        rw [show isClip (.str x) = (isPlain (.str x) && decide (x.length ≤ 60)) from rfl, Bool.eq_false_iff.mpr e, Bool.false_and]
      | _ => rfl
    rw [e2] at q
    exact q
theorem ok_is_word (T : Txt K mg) : FnOk P w K mg base CX0 3 T.f_is_word.f T.f_is_word.fd ["thing"] (spStr isWord K) := by
  refine T.f_is_word.F.ok sc_is_word (fun vs H Q E h => ?_) (fun cdv A outer s H vs Q E hr h => ?_)
  · obtain ⟨v, d, rfl, _⟩ := h
    rfl
  obtain ⟨v, d, rfl, hv, q⟩ := h
  refine ⟨_, (pss_one (ps_ret (pe_and (pe_call (ok_is_clip T) (hr.mono (by decide)) (by rfl) T.f_is_clip.g T.f_is_clip.F.kp T.f_is_clip.b .nil pass0 (pa_cons (pv 0) pa_nil)) (pe_one (pe_cmpR op_ne (pv 0) pe_str (nomark _)))))), ?_⟩
  walk_at "rd"
  refine ⟨v, rfl, v, d, rfl, hv, _, rfl, ite2 (fun e => ?_) (fun e => ?_)⟩
  · cases d with
    | str x =>
      unfold At at hv
      obtain ⟨rfl, hl⟩ := hv
      refine ⟨_, rfl, rfl, ?_⟩
      have e3 : (!decide (V.str (tx x) = V.str ("" : Str))) = isWord (.str x) := by
        rw [show isWord (.str x) = (isClip (.str x) && decide (x ≠ [])) from rfl, e, Bool.true_and, ← tx_nil, Bool.eq_iff_iff, Bool.not_eq_true', decide_eq_false_iff_not, decide_eq_true_iff, tx_eq]
      rw [e3]
      exact q
    | _ => cases e
  · have e2 : isWord d = false := by
      cases d with
      | str x =>
        rw [show isWord (.str x) = (isClip (.str x) && decide (x ≠ [])) from rfl, Bool.eq_false_iff.mpr e, Bool.false_and]
      | _ => rfl
    rw [e2] at q
    exact q

/-! ## pieces -/
def spIsPiece (f : Dt → Bool) (K : PySem.W.Frag) : Sp := fun vs H Q _ => ∃ v d, vs = [v] ∧ At K H v d ∧ ∀ H', Same H H' → Q (.bl (f d)) H'
theorem ok_is_piece (T : Txt K mg) : FnOk P w K mg base CX0 4 T.f_is_piece.f T.f_is_piece.fd ["thing"] (spIsPiece isPiece K) := by
  refine T.f_is_piece.F.ok sc_is_piece (fun vs H Q E h => ?_) (fun cdv A outer s H vs Q E hr h => ?_)
  · obtain ⟨v, d, rfl, _⟩ := h
    rfl
  obtain ⟨v, d, rfl, hv, q⟩ := h
  refine ⟨_, (pss_one (ps_ret (pe_and (pe_call (ok_is_row T) (hr.mono (by decide)) (by rfl) T.f_is_row.g T.f_is_row.F.kp T.f_is_row.b .nil pass0 (pa_cons (pv 0) pa_nil)) (pe_and (pe_cmpR op_eq (pe_callB (call_lenK K) (by rfl) T.b_len (by decide +kernel) (pa_cons (pv 0) pa_nil)) pe_int (nomark _)) (pe_and (pe_call (ok_is_word T) (hr.mono (by decide)) (by rfl) T.f_is_word.g T.f_is_word.F.kp T.f_is_word.b .nil pass0 (pa_cons (pe_ix ix_seq (pv 0) pe_int (fun _ _ => rfl)) pa_nil)) (pe_one (pe_call (ok_is_whole T) (hr.mono (by decide)) (by rfl) T.f_is_whole.g T.f_is_whole.F.kp T.f_is_whole.b .nil pass0 (pa_cons (pe_ix ix_seq (pv 0) pe_int (fun _ _ => rfl)) (pa_cons pe_int pa_nil))))))))), ?_⟩
  walk_at "rd"
  refine ⟨v, rfl, v, d, rfl, hv, fun H1 s1 => ⟨_, rfl, ite2 (fun e => ?_) (fun e => ?_)⟩⟩
  · obtain ⟨a, xs, rfl, hrow, hit⟩ := at_row hv e
    refine ⟨_, rfl, len_row (hrow.same s1) ⟨rfl, _, rfl, ite2 (fun e2 => ?_) (fun e2 => ?_)⟩⟩
    · have h2 : xs.length = 2 := by have := V.int.inj (of_decide_eq_true e2); omega
      obtain ⟨x0, x1, rfl⟩ : ∃ x0 x1, xs = [x0, x1] := by
        match xs, h2 with
        | [x0, x1], _ => exact ⟨x0, x1, rfl⟩
      obtain ⟨d0, g0, a0⟩ := hit.at (i := 0) rfl
      obtain ⟨d1, g1, a1⟩ := hit.at (i := 1) rfl
      have hd : d.items = [d0, d1] := by
        have hl : d.items.length = 2 := by rw [← hit.len]; rfl
        match hm : d.items, hl with
        | [y0, y1], _ =>
          rw [hm] at g0 g1
          cases g0
          cases g1
          rfl
      refine ⟨_, rfl, ix_row (hrow.same s1) (atI_nat (j := 0) rfl) ⟨x0, d0, rfl, At.same s1 _ _ a0, _, rfl, ite2 (fun e3 => ?_) (fun e3 => ?_)⟩⟩
      · refine ⟨_, rfl, ix_row (hrow.same s1) (atI_nat (j := 1) rfl) ⟨x1, d1, 1, rfl, At.same s1 _ _ a1, ?_⟩⟩
        have e4 : isPiece d = isWhole d1 1 := by
          unfold isPiece
          rw [hd, e, Bool.true_and]
          show (isWord d0 && isWhole d1 1) = _
          rw [e3, Bool.true_and]
        rw [e4] at q
        exact q _ s1
      · have e4 : isPiece d = false := by
          unfold isPiece
          rw [hd, e, Bool.true_and]
          show (isWord d0 && isWhole d1 1) = _
          rw [Bool.eq_false_iff.mpr e3, Bool.false_and]
        rw [e4] at q
        exact q _ s1
    · have e4 : isPiece d = false := by
        unfold isPiece
        rw [e, Bool.true_and]
        split
        · rename_i y0 y1 hy
          exfalso
          refine e2 (decide_eq_true ?_)
          rw [hit.len, hy]
          rfl
        · rfl
      rw [e4] at q
      exact q _ s1
  · have e2 : isPiece d = false := by
      unfold isPiece
      rw [Bool.eq_false_iff.mpr e, Bool.false_and]
    rw [e2] at q
    exact q _ s1

theorem ok_is_text (T : Txt K mg) : FnOk P w K mg base CX0 5 T.f_is_text.f T.f_is_text.fd ["thing"] (spIsPiece isText K) := by
  refine T.f_is_text.F.ok sc_is_text (fun vs H Q E h => ?_) (fun cdv A outer s H vs Q E hr h => ?_)
  · obtain ⟨v, d, rfl, _⟩ := h
    rfl
  obtain ⟨v, d, rfl, hv, q⟩ := h
  refine ⟨_, (pss_cons (ps_if (PW.pt (pw_or (pt_not (pt_val (pe_call (ok_is_row T) (hr.mono (by decide)) (by rfl) T.f_is_row.g T.f_is_row.F.kp T.f_is_row.b .nil pass0 (pa_cons (pv 0) pa_nil)))) (pw_or1 (pt_cmpR op_gt (pe_callB (call_lenK K) (by rfl) T.b_len (by decide +kernel) (pa_cons (pv 0) pa_nil)) (pe_c_MOST_PIECES T) (nomark _))))) (pss_one (ps_ret pe_bl)) pss_nil)
      (pss_cons (ps_set (i := 1) sc_is_text.nd rfl (.inl rfl) pe_int)
      (pss_cons (ps_for PassesOwn.never rfl (pi_seq (pv 0)) (pg_name (i := 2) sc_is_text.nd rfl (.inl rfl))
        (pss_cons (ps_if (pt_not (pt_val (pe_call (ok_is_piece T) (hr.mono (by decide)) (by rfl) T.f_is_piece.g T.f_is_piece.F.kp T.f_is_piece.b .nil pass0 (pa_cons (pv 2) pa_nil)))) (pss_one (ps_ret pe_bl)) pss_nil)
      (pss_one (ps_aug (i := 1) sc_is_text.nd rfl (.inl rfl) (pe_op op_mul (pe_callB (call_lenK K) (by rfl) T.b_len (by decide +kernel) (pa_cons (pe_ix ix_seq (pv 2) pe_int (fun _ _ => rfl)) pa_nil)) (pe_ix ix_seq (pv 2) pe_int (fun _ _ => rfl))) ip_add))))
      (pss_one (ps_ret (pe_cmpR op_le (pv 1) (pe_c_MOST_LETTERS T) (nomark _))))))), ?_⟩
  walk_at "rd"
  refine ⟨v, rfl, v, d, rfl, hv, fun H1 s1 => ⟨_, rfl, ?_⟩⟩
  cases hrw : isRow d with
  | false =>
    refine iteT (iteT ?_)
    have e4 : isText d = false := by unfold isText; rw [hrw]; rfl
    rw [e4] at q
    exact q _ s1
  | true =>
    obtain ⟨a, xs, rfl, hrow, hit⟩ := at_row hv hrw
    refine iteF ⟨_, rfl, len_row (hrow.same s1) ⟨_, _, rfl, rfl, _, rfl, ite2 (fun e2 => ?_) (fun e2 => ?_)⟩⟩
    · have e4 : isText d = false := by
        unfold isText
        have := of_decide_eq_true e2
        rw [hit.len] at this
        rw [decide_eq_false (show ¬ d.items.length ≤ 40 by omega), Bool.and_false]
        rfl
      rw [e4] at q
      exact q _ s1
    have h40 : d.items.length ≤ 40 := by
      rw [← hit.len]
      have : ¬ (40 < (xs.length : Int)) := fun z => e2 (decide_eq_true z)
      omega
    -- many = 0; the loop
    refine for_row (K := K) (a := a) (xs := xs) rfl (hrow.same s1) (Same.refl _)
      (fun i σ H2 => ∃ y, σ = [some (.ref a), some (.int ((d.items.map pieceSize).take i).sum), y] ∧ Same H1 H2 ∧ (d.items.take i).all isPiece = true)
      ⟨_, rfl, Same.refl _, rfl⟩ (fun i σ H2 _ ⟨_, _, s2, _⟩ => s2) ?_ ?_
    · rintro i x σ H2 hx ⟨y, rfl, s2, hall⟩
      obtain ⟨c, hc, ac⟩ := hit.at hx
      walk_at "rd"
      refine ⟨x, rfl, x, c, rfl, At.same (s1.trans s2) _ _ ac, fun H3 s3 => ⟨_, rfl, ?_⟩⟩
      cases hp : isPiece c with
      | false =>
        refine iteT ?_
        have e4 : isText d = false := by
          unfold isText
          have : d.items.all isPiece = false := by
            rw [List.all_eq_false]
            exact ⟨c, List.mem_of_getElem? hc, by rw [hp]; exact Bool.false_ne_true⟩
          rw [this, Bool.and_false]
          rfl
        rw [e4] at q
        exact q _ ((s1.trans s2).trans s3)
      | true =>
        refine iteF ?_
        obtain ⟨wd, n, e, hrc, hw, hn⟩ := isPiece_of hp
        obtain ⟨b, ys, rfl, rowb, itb⟩ := at_row (At.same ((s1.trans s2).trans s3) _ _ ac) hrc
        rw [e] at itb
        unfold Ats at itb
        obtain ⟨v1, us, rfl, g1, itb⟩ := itb
        unfold Ats at itb
        obtain ⟨v2, us, rfl, g2, itb⟩ := itb
        unfold Ats at itb
        subst itb
        unfold At at g1 g2
        obtain ⟨rfl, hl⟩ := g1
        subst g2
        have hb : -(2 ^ 64) < (wd.length : Int) ∧ (wd.length : Int) < 2 ^ 64 := by have := hw.2.2; omega
        refine ⟨_, rfl, _, rfl, ix_row rowb (atI_nat (j := 0) rfl) (len_tx hl ⟨_, rfl, ix_row rowb (atI_nat (j := 1) rfl) ⟨_, _, rfl, rfl, .inl hb, ?_⟩⟩)⟩
        refine ⟨_, _, rfl, rfl, some (.ref b), ?_, s2.trans s3, all_take_succ hall hc hp⟩
        have hz : (d.items.map pieceSize)[i]? = some ((wd.length : Int) * n) := by
          rw [List.getElem?_map, hc]
          show some (pieceSize c) = _
          unfold pieceSize
          rw [e]
        rw [isum_take hz]
        rfl
    · rintro σ H2 ⟨y, rfl, s2, hall⟩
      have hxl := hit.len
      rw [hxl, List.take_of_length_le (Nat.le_refl _)] at hall
      refine ⟨_, rfl, _, _, rfl, rfl, ?_⟩
      rw [hxl, List.take_of_length_le (by rw [List.length_map]; exact Nat.le_refl _)]
      have e4 : isText d = decide ((d.items.map pieceSize).sum ≤ 1000000000000000000000000000000) := by
        unfold isText
        rw [hrw, decide_eq_true h40, hall]
        rfl
      rw [e4] at q
      exact q _ (s1.trans s2)

def spCheckText (K : PySem.W.Frag) : Sp := fun vs H Q _ => ∃ v d, vs = [v] ∧ At K H v d ∧ isText d = true ∧ ∀ H', Same H H' → Q .non H'
theorem ok_check_text (T : Txt K mg) : FnOk P w K mg base CX0 6 T.f_check_text.f T.f_check_text.fd ["thing"] (spCheckText K) := by
  refine T.f_check_text.F.ok sc_check_text (fun vs H Q E h => ?_) (fun cdv A outer s H vs Q E hr h => ?_)
  · obtain ⟨v, d, rfl, _⟩ := h
    rfl
  obtain ⟨v, d, rfl, hv, ht, q⟩ := h
  refine ⟨_, (pss_one (ps_if (pt_not (pt_val (pe_call (ok_is_text T) (hr.mono (by decide)) (by rfl) T.f_is_text.g T.f_is_text.F.kp T.f_is_text.b .nil pass0 (pa_cons (pv 0) pa_nil)))) (pss_one ps_never) pss_nil)), ?_⟩
  walk_at "rd"
  refine ⟨v, rfl, v, d, rfl, hv, fun H1 s1 => ⟨_, rfl, ?_⟩⟩
  rw [ht]
  exact iteF (q _ s1)
def spCheckLetter (K : PySem.W.Frag) : Sp := fun vs H Q _ => ∃ c, vs = [.str (tx [c])] ∧ alpha.contains c = true ∧ Q .non H
theorem ok_check_letter (T : Txt K mg) : FnOk P w K mg base CX0 3 T.f_check_letter.f T.f_check_letter.fd ["thing"] (spCheckLetter K) := by
  refine T.f_check_letter.F.ok sc_check_letter (fun vs H Q E h => ?_) (fun cdv A outer s H vs Q E hr h => ?_)
  · obtain ⟨c, rfl, _⟩ := h
    rfl
  obtain ⟨c, rfl, hc, q⟩ := h
  refine ⟨_, (pss_one (ps_if (pt_not (pt_val (pe_call (ok_is_letter T) (hr.mono (by decide)) (by rfl) T.f_is_letter.g T.f_is_letter.F.kp T.f_is_letter.b .nil pass0 (pa_cons (pv 0) pa_nil)))) (pss_one ps_never) pss_nil)), ?_⟩
  walk_at "rd"
  refine ⟨_, rfl, _, .str [c], rfl, by unfold At; exact ⟨rfl, (by show 1 ≤ 1000000; decide)⟩, _, rfl, ?_⟩
  have e : isLetter (.str [c]) = true := by
    show ([c].all (alpha.contains ·) && decide ([c].length = 1)) = true
    rw [List.all_cons, hc]
    rfl
  rw [e]
  exact iteF q

/-! ## spans -/
def spSpansOf (K : PySem.W.Frag) : Sp := fun vs H Q _ => ∃ v ps, vs = [v] ∧ TextAt K H v ps ∧ Good ps ∧ ∀ H' a, Same H H' → SpansAt H' a (spansOf 0 ps) → Q (.ref a) H'
theorem ok_spans_of (T : Txt K mg) : FnOk P w K mg base CX0 1 T.f_spans_of.f T.f_spans_of.fd ["text"] (spSpansOf K) := by
  refine T.f_spans_of.F.ok sc_spans_of (fun vs H Q E h => ?_) (fun cdv A outer s H vs Q E hr h => ?_)
  · obtain ⟨v, d, rfl, _⟩ := h
    rfl
  obtain ⟨v, ps, rfl, hv, hg, q⟩ := h
  obtain ⟨a, xs, rfl, hrow, hps⟩ := hv
  refine ⟨_, (pss_cons (ps_set (i := 1) sc_spans_of.nd rfl (.inl rfl) (pe_lst pa_nil))
      (pss_cons (ps_set (i := 2) sc_spans_of.nd rfl (.inl rfl) pe_int)
      (pss_cons (ps_for PassesOwn.never rfl (pi_seq (pv 0)) (pg_seq rfl (pgs_cons (pg_name (i := 3) sc_spans_of.nd rfl (.inl rfl)) (pgs_cons (pg_name (i := 4) sc_spans_of.nd rfl (.inl rfl)) pgs_nil)))
        (pss_cons (ps_set (i := 5) sc_spans_of.nd rfl (.inl rfl) (pe_op op_add (pv 2) (pe_op op_mul (pe_callB (call_lenK K) (by rfl) T.b_len (by decide +kernel) (pa_cons (pv 3) pa_nil)) (pv 4))))
      (pss_cons (ps_expr (pe_bm PySem.F.plainAttrs_list PySem.F.slot_list_append PySem.F.type_list_append mt_append (pv 1) (pa_cons (pe_tup (pa_cons (pv 2) (pa_cons (pv 5) (pa_cons (pv 3) pa_nil)))) pa_nil)))
      (pss_one (ps_set (i := 2) sc_spans_of.nd rfl (.inl rfl) (pv 5))))))
      (pss_one (ps_ret (pv 1)))))), ?_⟩
  walk_at "rd"
  refine ⟨Nat.zero_le _, fun o no => ?_⟩
  have s1 : Same H (upd H o (.lst [])) := same_upd no
  refine for_row (K := K) (a := a) (xs := xs) rfl hrow s1
    (fun i σ H2 => ∃ y1 y2 y3, σ = [some (.ref a), some (.ref o), some (.int (size (ps.take i) : Nat)), y1, y2, y3] ∧ Same H H2 ∧ SpansAt H2 o ((spansOf 0 ps).take i))
    ⟨none, none, none, rfl, s1, [], upd_same, .nil⟩ (fun i σ H2 _ ⟨_, _, _, _, s2, _⟩ => s2) ?_ ?_
  · rintro i x σ H2 hx ⟨y1, y2, y3, rfl, s2, us, ho, hus⟩
    obtain ⟨p, hp, b, rfl, rowb⟩ := prd_at hps hx
    have hb := hg.ok p (List.mem_of_getElem? hp)
    refine gSeq.row (rowb.same s2) rfl ?_
    walk_at "rd"
    have hl : p.1.length ≤ 60 := hb.1.2.2
    refine ⟨_, _, rfl, _, _, rfl, rfl, ?_⟩
    refine ⟨_, rfl, _, rfl, len_tx (by omega) ⟨_, rfl, _, _, rfl, rfl, .inl ⟨by omega, by omega⟩, _, _, rfl, rfl, ?_⟩⟩
    refine ⟨_, rfl, .inl ⟨rfl, _, SqL.of ho⟩, _, rfl, _, rfl, _, rfl, (by show 3 ≤ sizeLine; decide), fun t nt => ?_⟩
    have hot : o ≠ t := ne_of_none ho nt
    have e : ((size (ps.take (i + 1)) : Nat) : Int) = ((size (ps.take i) : Nat) : Int) + (p.1.length : Int) * (p.2 : Int) := by rw [size_take_succ ps hp, Int.natCast_add, Int.natCast_mul]
    have hxl := (List.getElem?_eq_some_iff.mp hx).1
    have hul : us.length ≤ 40 := by rw [prd_len hus, List.length_take, spansOf_len]; have := hg.few; omega
    refine ⟨_, _, _, rfl, rfl, by rw [upd_ne hot]; exact ho, Nat.lt_of_le_of_lt hul (by decide), _, rfl, some (.str (tx p.1)), some (.int p.2), some (.int (((size (ps.take i) : Nat) : Int) + (p.1.length : Int) * (p.2 : Int))), by rw [e]; rfl, ?_, ?_⟩
    · exact same_mut (s2.trans (same_upd nt)) no
    · refine ⟨_, upd_same, ?_⟩
      rw [List.take_add_one, spansOf_get ps 0 i p hp, Nat.zero_add]
      have ho2 : (upd H2 t (.tup [.int ((size (ps.take i) : Nat) : Int), .int (((size (ps.take i) : Nat) : Int) + (p.1.length : Int) * (p.2 : Int)), .str (tx p.1)])) o = some (.lst us) := by rw [upd_ne hot]; exact ho
      refine prd_snoc (prd_same (fun _ _ k => SpanAt.upd ho2 (SpanAt.same (same_upd nt) k)) hus) ?_
      refine SpanAt.upd ho2 ⟨t, rfl, ?_⟩
      rw [upd_same]
      show some (HO.tup [.int ((size (ps.take i) : Nat) : Int), .int (((size (ps.take i) : Nat) : Int) + (p.1.length : Int) * (p.2 : Int)), .str (tx p.1)]) = some (HO.tup [.int ((size (ps.take i) : Nat) : Int), .int ((size (ps.take i) + p.1.length * p.2 : Nat) : Int), .str (tx p.1)])
      rw [Int.natCast_add, Int.natCast_mul]
  · rintro σ H2 ⟨y1, y2, y3, rfl, s2, hsp⟩
    refine ⟨_, rfl, q _ _ s2 ?_⟩
    rwa [List.take_of_length_le (by rw [spansOf_len, prd_len hps]; exact Nat.le_refl _)] at hsp

def spEndOf (K : PySem.W.Frag) : Sp := fun vs H Q _ => ∃ a ps, vs = [.ref a] ∧ SpansAt H a (spansOf 0 ps) ∧ Q (.int (size ps : Nat)) H
theorem ok_end_of (T : Txt K mg) : FnOk P w K mg base CX0 1 T.f_end_of.f T.f_end_of.fd ["spans"] (spEndOf K) := by
  refine T.f_end_of.F.ok sc_end_of (fun vs H Q E h => ?_) (fun cdv A outer s H vs Q E hr h => ?_)
  · obtain ⟨a, ps, rfl, _⟩ := h
    rfl
  obtain ⟨a, ps, rfl, ⟨us, ha, hus⟩, q⟩ := h
  refine ⟨_, (pss_one (ps_ret (pe_ifExp (pt_truth (pv 0) (by intro _; rfl)) (pe_ix ix_seq (pe_ix ix_seq (pv 0) (pe_un un_neg pe_int) (fun _ _ => rfl)) pe_int (fun _ _ => rfl)) pe_int))), ?_⟩
  walk_at "rd"
  refine ⟨_, rfl, _, .inl ⟨us, SqL.of ha, rfl⟩, ?_⟩
  by_cases hps : ps = []
  · subst hps
    cases hus
    exact iteF q
  · obtain ⟨p, s0, h1, h2⟩ := spansOf_last hps
    have hne : us ≠ [] := fun z => by
      subst z
      cases hus2 : spansOf 0 ps with
      | nil => rw [hus2] at h2; cases h2
      | cons x r => rw [hus2] at hus; cases hus
    have e : (!us.isEmpty) = true := by cases us with
      | nil => exact absurd rfl hne
      | cons _ _ => rfl
    rw [e]
    refine iteT ⟨_, rfl, _, rfl, ?_⟩
    obtain ⟨ys, x, rfl⟩ : ∃ ys x, us = ys ++ [x] := ⟨us.dropLast, us.getLast hne, (List.dropLast_concat_getLast hne).symm⟩
    refine ix_lst ha (atI_last ys x) ?_
    have hx : (ys ++ [x])[ys.length]? = some x := by simp
    obtain ⟨y, hy, b, rfl, hb⟩ := prd_at hus hx
    have hl := prd_len hus
    have ey : y = (s0, size ps, p.1) := by
      rw [List.getLast?_eq_getElem?, ← hl] at h2
      have : (ys ++ [V.ref b]).length - 1 = ys.length := by simp
      rw [this, hy] at h2
      exact Option.some.inj h2
    subst ey
    exact ix_row (.inr (SqT.of hb)) (atI_nat (j := 1) rfl) q

/-! ## words again and again -/
def spStretch (K : PySem.W.Frag) : Sp := fun vs H Q _ => ∃ (x : List Nat) (a m : Nat), vs = [.str (tx x), .int a, .int m] ∧ x ≠ [] ∧ x.length ≤ 60 ∧ m ≤ 2000 ∧ Q (.str (tx (cyc x a m))) H
theorem ok_stretch (T : Txt K mg) : FnOk P w K mg base CX0 1 T.f_stretch.f T.f_stretch.fd ["word", "at", "many"] (spStretch K) := by
  refine T.f_stretch.F.ok sc_stretch (fun vs H Q E h => ?_) (fun cdv A outer s H vs Q E hr h => ?_)
  · obtain ⟨x, a, m, rfl, _⟩ := h
    rfl
  obtain ⟨x, a, m, rfl, hx, hl, hm, q⟩ := h
  have hp : 0 < x.length := List.length_pos_iff.mpr hx
  refine ⟨_, (pss_cons (ps_set (i := 3) sc_stretch.nd rfl (.inl rfl) (pe_op op_mod (pv 1) (pe_callB (call_lenK K) (by rfl) T.b_len (by decide +kernel) (pa_cons (pv 0) pa_nil))))
      (pss_cons (ps_set (i := 4) sc_stretch.nd rfl (.inl rfl) (pe_op op_mul_str (pv 0) (pe_op op_add (pe_op op_fdiv (pe_op op_add (pv 3) (pv 2)) (pe_callB (call_lenK K) (by rfl) T.b_len (by decide +kernel) (pa_cons (pv 0) pa_nil))) pe_int)))
      (pss_one (ps_ret (pe_slice sl_str (pv 4) (po_some (pv 3)) (po_some (pe_op op_add (pv 3) (pv 2)))))))), ?_⟩
  walk_at "rd"
  refine ⟨_, rfl, _, rfl, len_tx (by omega) ⟨_, _, rfl, rfl, by omega, ?_⟩⟩
  refine ⟨_, rfl, _, rfl, _, rfl, _, _, rfl, rfl, _, rfl, len_tx (by omega) ⟨_, _, rfl, rfl, ⟨by omega, by omega⟩, _, _, rfl, rfl, ?_⟩⟩
  have hmod := Nat.mod_lt a hp
  have e1 : ((a : Int) % (x.length : Int) + (m : Int)) / (x.length : Int) + 1 = (((a % x.length + m) / x.length + 1 : Nat) : Int) := by
    rw [Int.natCast_add, Int.natCast_ediv, Int.natCast_add, Int.natCast_emod]
    rfl
  have hb : (a % x.length + m) / x.length + 1 ≤ 2061 := by
    have := Nat.div_le_self (a % x.length + m) x.length
    omega
  refine ⟨tx x, _, rfl, congrArg V.int e1, mul_ok 60 2061 hl hb (by decide) (by decide), ?_⟩
  rw [mul_tx]
  have e2 : (a : Int) % (x.length : Int) = ((a % x.length : Nat) : Int) := (Int.natCast_emod a x.length).symm
  refine ⟨_, rfl, _, rfl, _, rfl, _, rfl, _, rfl, _, _, rfl, rfl, _, rfl, tx (rep x ((a % x.length + m) / x.length + 1)), rfl, ?_, ?_⟩
  · rw [tx_len, rep_len]
    exact Nat.le_trans (Nat.mul_le_mul hb hl) (by decide)
  · show Q (.str (cutS (tx (rep x _)) (some ((a : Int) % (x.length : Int))) (some ((a : Int) % (x.length : Int) + (m : Int))))) H
    rw [e2, show ((a % x.length : Nat) : Int) + (m : Int) = ((a % x.length + m : Nat) : Int) from (Int.natCast_add _ _).symm, cut_nn, Nat.add_sub_cancel_left]
    exact q

def spAmong (K : PySem.W.Frag) : Sp := fun vs H Q _ => ∃ (x : List Nat) (c m : Nat), vs = [.str (tx x), .str (tx [c]), .int m] ∧ x ≠ [] ∧ x.length ≤ 60 ∧ ∀ H', Same H H' → Q (.int ((x.count c * (m / x.length) + (x.take (m % x.length)).count c : Nat) : Int)) H'
theorem ok_among (T : Txt K mg) : FnOk P w K mg base CX0 1 T.f_among.f T.f_among.fd ["word", "sign", "many"] (spAmong K) := by
  refine T.f_among.F.ok sc_among (fun vs H Q E h => ?_) (fun cdv A outer s H vs Q E hr h => ?_)
  · obtain ⟨x, a, m, rfl, _⟩ := h
    rfl
  obtain ⟨x, c, m, rfl, hx, hl, q⟩ := h
  have hp : 0 < x.length := List.length_pos_iff.mpr hx
  refine ⟨_, (pss_cons (ps_asg (pe_callB call_divmod (by rfl) T.b_divmod (by decide +kernel) (pa_cons (pv 2) (pa_cons (pe_callB (call_lenK K) (by rfl) T.b_len (by decide +kernel) (pa_cons (pv 0) pa_nil)) pa_nil))) (pg_tup rfl (pgs_cons (pg_name (i := 3) sc_among.nd rfl (.inl rfl)) (pgs_cons (pg_name (i := 4) sc_among.nd rfl (.inl rfl)) pgs_nil))))
      (pss_one (ps_ret (pe_op op_add (pe_op op_mul (pe_m1 PySem.F.slot_str_count PySem.F.type_str_count mt_count (pv 0) (pv 1)) (pv 3)) (pe_m1 PySem.F.slot_str_count PySem.F.type_str_count mt_count (pe_slice sl_str (pv 0) po_none (po_some (pv 4))) (pv 1)))))), ?_⟩
  walk_at "rd"
  refine ⟨_, rfl, _, rfl, len_tx (by omega) ⟨_, _, rfl, ⟨by omega, by omega⟩, fun t nt => ?_⟩⟩
  have e2 : (m : Int) % (x.length : Int) = ((m % x.length : Nat) : Int) := (Int.natCast_emod m x.length).symm
  have hcount : x.count c ≤ 60 := Nat.le_trans List.count_le_length hl
  refine ⟨t, _, rfl, SqT.of upd_same, rfl, _, _, rfl, _, _, rfl, rfl, ?_⟩
  refine ⟨_, rfl, ⟨_, rfl⟩, _, rfl, _, _, rfl, rfl, _, rfl, _, _, rfl, rfl, .inl ?_, ?_⟩
  · rw [count_tx]
    omega
  · refine ⟨_, rfl, _, rfl, _, rfl, tx x, rfl, by rw [tx_len]; exact Nat.le_trans hl (by decide), ⟨_, rfl⟩, _, rfl, _, _, rfl, rfl, _, _, rfl, rfl, ?_⟩
    show Q (.int (Txt.count (tx x) (tx [c]) * ((m : Int) / (x.length : Int)) + Txt.count (cutS (tx x) none (some ((m : Int) % (x.length : Int)))) (tx [c]))) _
    rw [e2, cut__n, count_tx, count_tx, ← Int.natCast_ediv, ← Int.natCast_mul, ← Int.natCast_add]
    exact q _ (same_upd nt)

/-! ## looks -/
def GoodW (ps : Pcs) : Prop := ∀ p ∈ ps, p.1 ≠ [] ∧ p.1.length ≤ 60
theorem good_w {ps : Pcs} (h : Good ps) : GoodW ps := fun p hp => ⟨(h.ok p hp).1.2.1, (h.ok p hp).1.2.2⟩
def spLook (K : PySem.W.Frag) : Sp := fun vs H Q _ => ∃ a ps place many, vs = [.ref a, .int ((place : Nat) : Int), .int ((many : Nat) : Int)] ∧ SpansAt H a (spansOf 0 ps) ∧ GoodW ps ∧ ps.length ≤ 40 ∧ many ≤ 2000 ∧
  ∀ H', Same H H' → Q (.str (tx (((spell ps).drop place).take many))) H'
theorem ok_look (T : Txt K mg) : FnOk P w K mg base CX0 2 T.f_look.f T.f_look.fd ["spans", "place", "many"] (spLook K) := by
  refine T.f_look.F.ok sc_look (fun vs H Q E h => ?_) (fun cdv A outer s H vs Q E hr h => ?_)
  · obtain ⟨a, ps, place, many, rfl, _⟩ := h
    rfl
  obtain ⟨a, ps, place, many, rfl, ⟨us, ha, hus⟩, hg, hle, hm, q⟩ := h
  refine ⟨_, (pss_cons (ps_set (i := 3) sc_look.nd rfl (.inl rfl) (pe_lst pa_nil))
      (pss_cons (ps_for PassesOwn.never rfl (pi_list (pv 0)) (pg_tup rfl (pgs_cons (pg_name (i := 4) sc_look.nd rfl (.inl rfl)) (pgs_cons (pg_name (i := 5) sc_look.nd rfl (.inl rfl)) (pgs_cons (pg_name (i := 6) sc_look.nd rfl (.inl rfl)) pgs_nil))))
        (pss_cons (ps_set (i := 7) sc_look.nd rfl (.inl rfl) (pe_callB (call_max2 rfl) (by rfl) T.b_max (by decide +kernel) (pa_cons (pv 4) (pa_cons (pv 1) pa_nil))))
      (pss_cons (ps_set (i := 8) sc_look.nd rfl (.inl rfl) (pe_callB (call_min2 rfl) (by rfl) T.b_min (by decide +kernel) (pa_cons (pv 5) (pa_cons (pe_op op_add (pv 1) (pv 2)) pa_nil))))
      (pss_one (ps_if (pt_cmpR op_lt (pv 7) (pv 8) (nomark _)) (pss_one (ps_expr (pe_bm PySem.F.plainAttrs_list PySem.F.slot_list_append PySem.F.type_list_append mt_append (pv 3) (pa_cons (pe_call (ok_stretch T) (hr.mono (by decide)) (by rfl) T.f_stretch.g T.f_stretch.F.kp T.f_stretch.b .nil pass0 (pa_cons (pv 6) (pa_cons (pe_op op_sub (pv 7) (pv 4)) (pa_cons (pe_op op_sub (pv 8) (pv 7)) pa_nil)))) pa_nil)))) pss_nil)))))
      (pss_one (ps_ret (pe_join pe_str (pv 3)))))), ?_⟩
  walk_at "rd"
  refine ⟨Nat.zero_le _, fun o no => ?_⟩
  have s1 : Same H (upd H o (.lst [])) := same_upd no
  refine ⟨_, rfl, a, rfl, ⟨_, SqL.of (s1 _ _ ha)⟩, for_list (K := K) (a := a) (xs := us)
    (fun i σ H2 => ∃ y1 y2 y3 y4 y5 ss, σ = [some (.ref a), some (.int (place : Int)), some (.int (many : Int)), some (.ref o), y1, y2, y3, y4, y5] ∧ Same H H2 ∧ H2 o = some (.lst (ss.map fun x => V.str (tx x))) ∧ ss.length ≤ i ∧ ss.flatten = ((spell (ps.take i)).drop place).take many)
    ⟨none, none, none, none, none, [], rfl, s1, upd_same, Nat.le_refl _, by simp [spell]⟩ (fun i σ H2 _ ⟨_, _, _, _, _, _, _, s2, _⟩ => SqL.of (s2 _ _ ha)) ?_ ?_⟩
  · rintro i x σ H2 hx ⟨y1, y2, y3, y4, y5, ss, rfl, s2, ho, hsl, hss⟩
    obtain ⟨sp, hsp, b, rfl, hb⟩ := prd_at hus hx
    obtain ⟨p, hp, rfl⟩ := spansOf_at ps hsp
    have hgp := hg p (List.mem_of_getElem? hp)
    have hpos : 0 < p.1.length := List.length_pos_iff.mpr hgp.1
    have hsz : (spell (ps.take i)).length = size (ps.take i) := spell_len _
    have hxl := (List.getElem?_eq_some_iff.mp hx).1
    have hul := prd_len hus
    rw [spansOf_len] at hul
    have happ := look_app (spell (ps.take i)) (rep p.1 p.2) place many
    rw [← spell_take_succ hp, rep_len, hsz] at happ
    walk_at "rd"
    refine ⟨b, _, rfl, SqT.of (s2 _ _ hb), rfl, _, _, rfl, _, _, rfl, _, _, rfl, rfl, ?_⟩
    -- low, high
    have hmul : p.2 * p.1.length = p.1.length * p.2 := Nat.mul_comm _ _
    have elow : (if (place : Int) > ((size (ps.take i) : Nat) : Int) then (place : Int) else ((size (ps.take i) : Nat) : Int)) = ((max (size (ps.take i)) place : Nat) : Int) := by
      split <;> omega
    have ehigh : (if (place : Int) + (many : Int) < ((size (ps.take i) + p.1.length * p.2 : Nat) : Int) then (place : Int) + (many : Int) else ((size (ps.take i) + p.1.length * p.2 : Nat) : Int)) = ((min (size (ps.take i) + p.1.length * p.2) (place + many) : Nat) : Int) := by
      split <;> omega
    refine ⟨_, rfl, _, rfl, _, _, rfl, ?_⟩
    rw [elow]
    refine ⟨_, rfl, _, rfl, _, rfl, _, _, rfl, rfl, _, _, rfl, ?_⟩
    rw [ehigh]
    refine ⟨_, rfl, _, rfl, _, _, rfl, rfl, _, rfl, ite2 (fun e => ?_) (fun e => ?_)⟩
    · have hlt : max (size (ps.take i)) place < min (size (ps.take i) + p.1.length * p.2) (place + many) := by
        have := of_decide_eq_true e
        omega
      have e1 : ((max (size (ps.take i)) place : Nat) : Int) - ((size (ps.take i) : Nat) : Int) = ((max (size (ps.take i)) place - size (ps.take i) : Nat) : Int) := by omega
      have e2 : ((min (size (ps.take i) + p.1.length * p.2) (place + many) : Nat) : Int) - ((max (size (ps.take i)) place : Nat) : Int) = ((min (size (ps.take i) + p.1.length * p.2) (place + many) - max (size (ps.take i)) place : Nat) : Int) := by omega
      refine ⟨_, rfl, .inl ⟨rfl, _, SqL.of ho⟩, _, rfl, _, rfl, _, rfl, _, _, rfl, rfl, _, rfl, _, rfl, _, _, rfl, rfl, ?_⟩
      refine ⟨p.1, max (size (ps.take i)) place - size (ps.take i), min (size (ps.take i) + p.1.length * p.2) (place + many) - max (size (ps.take i)) place, ?_, hgp.1, hgp.2, by omega, ?_⟩
      · show [V.str (tx p.1), V.int _, V.int _] = _
        rw [e1, e2]
      refine ⟨o, _, _, rfl, rfl, ho, ?_, ?_⟩
      · rw [List.length_map]
        exact Nat.lt_of_le_of_lt (show ss.length ≤ 40 by omega) (by decide)
      · refine ⟨_, _, _, _, _, ss ++ [cyc p.1 (max (size (ps.take i)) place - size (ps.take i)) (min (size (ps.take i) + p.1.length * p.2) (place + many) - max (size (ps.take i)) place)], rfl, same_mut s2 no, ?_, ?_, ?_⟩
        · rw [upd_same, List.map_append]
          rfl
        · rw [List.length_append]
          show ss.length + 1 ≤ i + 1
          omega
        · rw [List.flatten_append, hss, happ]
          congr 1
          rw [hmul, drop_rep hgp.1 (by rw [hmul]; omega)]
          show [_].flatten = _
          rw [List.flatten_cons, List.flatten_nil, List.append_nil]
    · have hge : min (size (ps.take i) + p.1.length * p.2) (place + many) ≤ max (size (ps.take i)) place := by
        have : ¬ (((max (size (ps.take i)) place : Nat) : Int) < ((min (size (ps.take i) + p.1.length * p.2) (place + many) : Nat) : Int)) := fun z => e (decide_eq_true z)
        omega
      refine ⟨_, _, _, _, _, ss, rfl, s2, ho, by omega, ?_⟩
      rw [hss, happ, hmul, show min (size (ps.take i) + p.1.length * p.2) (place + many) - max (size (ps.take i)) place = 0 by omega, List.take_zero, List.append_nil]
  · rintro σ H2 ⟨y1, y2, y3, y4, y5, ss, rfl, s2, ho, hsl, hss⟩
    have hul := prd_len hus
    rw [spansOf_len] at hul
    rw [hul, List.take_length] at hss
    walk_at "rd"
    refine ⟨⟨_, rfl⟩, _, rfl, tx [], o, ss.map tx, rfl, rfl, .inl (SqL.of (by rw [List.map_map]; exact ho)), ?_, ?_⟩
    · have e1 : ((ss.map tx).map (·.length)) = ss.map (·.length) := by rw [List.map_map]; exact List.map_congr_left fun x _ => tx_len x
      have e2 : ss.flatten.length ≤ many := by rw [hss, List.length_take]; exact Nat.min_le_left _ _
      rw [e1, sum_le_len, tx_len, List.length_nil, Nat.mul_zero]
      omega
    · rw [join_tx, hss]
      exact q _ s2

/-! ## the so-manieth of a sign in a word again and again -/
def spNthAgain (K : PySem.W.Frag) : Sp := fun vs H Q _ => ∃ (x : List Nat) (c k : Nat), vs = [.str (tx x), .str (tx [c]), .int (k : Int)] ∧ x ≠ [] ∧ x.length ≤ 60 ∧ c ∈ x ∧ ∀ H' (i : Nat), Same H H' → (∀ n, k < n * x.count c → IsNth (rep x n) c k i) → Q (.int (i : Int)) H'
theorem ok_nth_again (T : Txt K mg) : FnOk P w K mg base CX0 1 T.f_nth_again.f T.f_nth_again.fd ["word", "sign", "number"] (spNthAgain K) := by
  refine T.f_nth_again.F.ok sc_nth_again (fun vs H Q E h => ?_) (fun cdv A outer s H vs Q E hr h => ?_)
  · obtain ⟨x, c, k, rfl, _⟩ := h
    rfl
  obtain ⟨x, c, k, rfl, hx, hl, hc, q⟩ := h
  have hcp : 0 < x.count c := List.count_pos_iff.mpr hc
  refine ⟨_, (pss_cons (ps_setLc (i := 3) (own := [("at", 6)]) rfl sc_nth_again.nd rfl rfl (sw_true rfl rfl rfl (by decide +kernel)) (pi_range1 (by rfl) T.b_range (pa_cons (pe_callB (call_lenK K) (by rfl) T.b_len (by decide +kernel) (pa_cons (pv 0) pa_nil)) pa_nil)) (blkOk_by (own := [("at", 6)]) (N := N_nth_again) (sc := defScope s_nth_again) (by decide +kernel)) (fun _ _ _ _ _ => (pg_name (i := 6) sc_nth_again.nd rfl (.inl rfl))) (fun _ _ _ _ _ => (pts_one (pt_cmpR op_eq (pe_ix (ix_seqK K) (pv 0) (pv 6) (fun _ _ => rfl)) (pv 1) (nomark _)))) (fun _ _ _ _ _ => (pv 6)))
      (pss_cons (ps_asg (pe_callB call_divmod (by rfl) T.b_divmod (by decide +kernel) (pa_cons (pv 2) (pa_cons (pe_callB (call_lenK K) (by rfl) T.b_len (by decide +kernel) (pa_cons (pv 3) pa_nil)) pa_nil))) (pg_tup rfl (pgs_cons (pg_name (i := 4) sc_nth_again.nd rfl (.inl rfl)) (pgs_cons (pg_name (i := 5) sc_nth_again.nd rfl (.inl rfl)) pgs_nil))))
      (pss_one (ps_ret (pe_op op_add (pe_op op_mul (pv 4) (pe_callB (call_lenK K) (by rfl) T.b_len (by decide +kernel) (pa_cons (pv 0) pa_nil))) (pe_ix ix_seq (pv 3) (pv 5) (fun _ _ => rfl))))))), ?_⟩
  walk_at "rd"
  refine lc_rng1 ?_
  walk_at "rd"
  refine ⟨_, rfl, len_tx (by omega) ⟨_, rfl, by omega, by omega, fun D hD => ?_⟩⟩
  have s1 : Same H (upd H D (.lst [])) := same_upd hD
  refine LcGo.range (fun i H2 => Same H H2 ∧ H2 D = some (.lst (((List.range i).filter fun j => x[j]? == some c).map fun j : Nat => V.int (j : Int)))) ⟨s1, upd_same⟩ ?_ ?_
  · rintro i H2 hi ⟨s2, h2⟩
    have hil : i < x.length := by omega
    have hg : x[i]? = some x[i] := List.getElem?_eq_getElem hil
    have hat : atI x (0 + (i : Int)) = some x[i] := at_ofA (j := i) (by omega) hg
    walk_at "rd"
    refine ⟨rfl, _, rfl, _, rfl, ix_tx (show x.length ≤ 1000000 by omega) hat ⟨_, rfl, rfl, _, rfl, ite2 (fun e => ?_) (fun e => ?_)⟩⟩
    · have ec : x[i] = c := by have := tx_inj (V.str.inj (of_decide_eq_true e)); simpa using this
      refine ⟨_, rfl, _, h2, ?_, same_mut s2 hD, ?_⟩
      · rw [List.length_map]
        refine Nat.lt_of_le_of_lt (List.length_filter_le _ _) ?_
        rw [List.length_range]
        exact Nat.lt_of_lt_of_le (show i < 60 by omega) (by decide)
      · rw [upd_same, List.range_succ, List.filter_append, List.map_append]
        have e2 : (List.filter (fun j => x[j]? == some c) [i]) = [i] := by
          rw [List.filter_cons, hg, ec]
          simp
        rw [e2]
        show some (HO.lst (_ ++ [V.int (0 + (i : Int))])) = some (HO.lst (_ ++ [V.int (i : Int)]))
        rw [Int.zero_add]
    · have ec : x[i] ≠ c := fun z => e (decide_eq_true (by rw [z]))
      refine ⟨s2, ?_⟩
      rw [h2, List.range_succ, List.filter_append]
      have e2 : (List.filter (fun j => x[j]? == some c) [i]) = [] := by
        rw [List.filter_cons, hg]
        simp [ec]
      rw [e2, List.append_nil]
  · rintro H2 ⟨s2, h2⟩
    rw [Int.toNat_natCast] at h2
    have h3 : H2 D = some (.lst ((pos x c).map fun j : Nat => V.int (j : Int))) := h2
    have hpl : ((pos x c).map fun j : Nat => V.int (j : Int)).length = x.count c := by rw [List.length_map, pos_len]
    have hc60 : x.count c ≤ 60 := Nat.le_trans List.count_le_length hl
    walk_at "rd"
    refine ⟨_, rfl, _, rfl, len_row (.inl (SqL.of h3)) ⟨_, _, rfl, ⟨by rw [hpl]; omega, by rw [hpl]; omega⟩, fun t nt => ?_⟩⟩
    rw [hpl]
    have hDt : D ≠ t := ne_of_none h3 nt
    refine ⟨t, _, rfl, SqT.of upd_same, rfl, _, _, rfl, _, _, rfl, rfl, ?_⟩
    have hlt : k % x.count c < (pos x c).length := by rw [pos_len]; exact Nat.mod_lt _ hcp
    have hn := pos_get (List.getElem?_eq_getElem hlt)
    refine ⟨_, rfl, _, rfl, len_tx (by omega) ⟨_, _, rfl, rfl, .inr ⟨by omega, by omega⟩, _, rfl, _, rfl, ix_lst (by rw [upd_ne hDt]; exact h3) (at_of (j := k % x.count c) (Int.natCast_emod k _).symm (by rw [List.getElem?_map, List.getElem?_eq_getElem hlt]; rfl)) ⟨_, _, rfl, rfl, ?_⟩⟩⟩
    show Q (.int ((k : Int) / (x.count c : Int) * (x.length : Int) + _)) _
    rw [← Int.natCast_ediv, ← Int.natCast_mul, ← Int.natCast_add]
    refine q _ _ (s2.trans (same_upd nt)) fun n hk => ?_
    have hq : k / x.count c < n := (Nat.div_lt_iff_lt_mul hcp).mpr hk
    have := nth_rep hn hq
    rw [Nat.div_add_mod' k (x.count c)] at this
    exact this

/-! ## the interface of texts -/
def spLength (K : PySem.W.Frag) : Sp := fun vs H Q _ => ∃ v d, vs = [v] ∧ At K H v d ∧ isText d = true ∧ ∀ H', Same H H' → Q (.int (size (pcs d) : Nat)) H'
def spLetter (K : PySem.W.Frag) : Sp := fun vs H Q _ => ∃ (v : V) (d : Dt) (place c : Nat), vs = [v, .int (place : Int)] ∧ At K H v d ∧ isText d = true ∧ (spell (pcs d))[place]? = some c ∧ ∀ H', Same H H' → Q (.str (tx [c])) H'
theorem within_ok {i lo hi : Int} (h1 : lo ≤ i) (h2 : i ≤ hi) : isWithin (.int i) lo hi = true := by
  show (decide (lo ≤ i) && decide (i ≤ hi)) = true
  rw [decide_eq_true h1, decide_eq_true h2]
  rfl
theorem at_int {K : PySem.W.Frag} {H : Hp} {i : Int} : At K H (.int i) (.int i) := by
  unfold At
  rfl
theorem ok_letter (T : Txt K mg) : FnOk P w K mg base CX0 7 T.f_letter.f T.f_letter.fd ["text", "place"] (spLetter K) := by
  refine T.f_letter.F.ok sc_letter (fun vs H Q E h => ?_) (fun cdv A outer s H vs Q E hr h => ?_)
  · obtain ⟨v, d, place, c, rfl, _⟩ := h
    rfl
  obtain ⟨v, d, place, c, rfl, hv, ht, hc, q⟩ := h
  have hg := Good.of ht
  have hlt := (List.getElem?_eq_some_iff.mp hc).1
  rw [spell_len] at hlt
  refine ⟨_, (pss_cons (ps_expr (pe_call (ok_check_text T) (hr.mono (by decide)) (by rfl) T.f_check_text.g T.f_check_text.F.kp T.f_check_text.b .nil pass0 (pa_cons (pv 0) pa_nil)))
      (pss_cons (ps_set (i := 2) sc_letter.nd rfl (.inl rfl) (pe_call (ok_spans_of T) (hr.mono (by decide)) (by rfl) T.f_spans_of.g T.f_spans_of.F.kp T.f_spans_of.b .nil pass0 (pa_cons (pv 0) pa_nil)))
      (pss_cons (ps_if (pt_not (pt_val (pe_call (ok_is_within T) (hr.mono (by decide)) (by rfl) T.f_is_within.g T.f_is_within.F.kp T.f_is_within.b .nil pass0 (pa_cons (pv 1) (pa_cons pe_int (pa_cons (pe_op op_sub (pe_call (ok_end_of T) (hr.mono (by decide)) (by rfl) T.f_end_of.g T.f_end_of.F.kp T.f_end_of.b .nil pass0 (pa_cons (pv 2) pa_nil)) pe_int) pa_nil)))))) (pss_one ps_never) pss_nil)
      (pss_one (ps_ret (pe_call (ok_look T) (hr.mono (by decide)) (by rfl) T.f_look.g T.f_look.F.kp T.f_look.b .nil pass0 (pa_cons (pv 2) (pa_cons (pv 1) (pa_cons pe_int pa_nil))))))))), ?_⟩
  walk_at "rd"
  refine ⟨v, rfl, v, d, rfl, hv, ht, fun H1 s1 => ?_⟩
  refine ⟨v, rfl, v, pcs d, rfl, (textAt_of hv ht).same s1, hg, fun H2 a s2 hs => ?_⟩
  refine ⟨_, rfl, _, rfl, a, pcs d, rfl, hs, _, _, rfl, rfl, _, .int place, 0, _, rfl, at_int, _, rfl, ?_⟩
  rw [within_ok (by omega) (by omega)]
  refine iteF ⟨_, rfl, _, rfl, a, pcs d, place, 1, rfl, hs, good_w hg, hg.few, by decide, fun H3 s3 => ?_⟩
  have e : ((spell (pcs d)).drop place).take 1 = [c] := by
    rw [List.drop_eq_getElem_cons (by rw [spell_len]; exact hlt), List.take_succ_cons, List.take_zero, (List.getElem?_eq_some_iff.mp hc).2]
  rw [e]
  exact q _ ((s1.trans s2).trans s3)
def spLooks (K : PySem.W.Frag) : Sp := fun vs H Q _ => ∃ (v : V) (d : Dt) (place many : Nat), vs = [v, .int (place : Int), .int (many : Int)] ∧ At K H v d ∧ isText d = true ∧ place ≤ size (pcs d) ∧ many ≤ 2000 ∧ ∀ H', Same H H' → Q (.str (tx (((spell (pcs d)).drop place).take many))) H'
theorem ok_looks (T : Txt K mg) : FnOk P w K mg base CX0 7 T.f_looks.f T.f_looks.fd ["text", "place", "many"] (spLooks K) := by
  refine T.f_looks.F.ok sc_looks (fun vs H Q E h => ?_) (fun cdv A outer s H vs Q E hr h => ?_)
  · obtain ⟨v, d, place, c, rfl, _⟩ := h
    rfl
  obtain ⟨v, d, place, many, rfl, hv, ht, hp, hm, q⟩ := h
  have hg := Good.of ht
  refine ⟨_, (pss_cons (ps_expr (pe_call (ok_check_text T) (hr.mono (by decide)) (by rfl) T.f_check_text.g T.f_check_text.F.kp T.f_check_text.b .nil pass0 (pa_cons (pv 0) pa_nil)))
      (pss_cons (ps_set (i := 3) sc_looks.nd rfl (.inl rfl) (pe_call (ok_spans_of T) (hr.mono (by decide)) (by rfl) T.f_spans_of.g T.f_spans_of.F.kp T.f_spans_of.b .nil pass0 (pa_cons (pv 0) pa_nil)))
      (pss_cons (ps_if (pt_not (pt_val (pe_call (ok_is_within T) (hr.mono (by decide)) (by rfl) T.f_is_within.g T.f_is_within.F.kp T.f_is_within.b .nil pass0 (pa_cons (pv 1) (pa_cons pe_int (pa_cons (pe_call (ok_end_of T) (hr.mono (by decide)) (by rfl) T.f_end_of.g T.f_end_of.F.kp T.f_end_of.b .nil pass0 (pa_cons (pv 3) pa_nil)) pa_nil)))))) (pss_one ps_never) pss_nil)
      (pss_cons (ps_if (pt_not (pt_val (pe_call (ok_is_within T) (hr.mono (by decide)) (by rfl) T.f_is_within.g T.f_is_within.F.kp T.f_is_within.b .nil pass0 (pa_cons (pv 2) (pa_cons pe_int (pa_cons (pe_c_LONGEST_LOOK T) pa_nil)))))) (pss_one ps_never) pss_nil)
      (pss_one (ps_ret (pe_call (ok_look T) (hr.mono (by decide)) (by rfl) T.f_look.g T.f_look.F.kp T.f_look.b .nil pass0 (pa_cons (pv 3) (pa_cons (pv 1) (pa_cons (pv 2) pa_nil)))))))))), ?_⟩
  walk_at "rd"
  refine ⟨v, rfl, v, d, rfl, hv, ht, fun H1 s1 => ?_⟩
  refine ⟨v, rfl, v, pcs d, rfl, (textAt_of hv ht).same s1, hg, fun H2 a s2 hs => ?_⟩
  refine ⟨_, rfl, _, rfl, a, pcs d, rfl, hs, _, .int place, 0, _, rfl, at_int, _, rfl, ?_⟩
  rw [within_ok (by omega) (by omega)]
  refine iteF ⟨_, rfl, _, .int many, 0, _, rfl, at_int, _, rfl, ?_⟩
  rw [within_ok (by omega) (by omega)]
  exact iteF ⟨_, rfl, _, rfl, _, rfl, a, pcs d, place, many, rfl, hs, good_w hg, hg.few, hm, fun H3 s3 => q _ ((s1.trans s2).trans s3)⟩
def spCount (K : PySem.W.Frag) : Sp := fun vs H Q _ => ∃ (v : V) (d : Dt) (c many : Nat), vs = [v, .str (tx [c]), .int (many : Int)] ∧ At K H v d ∧ isText d = true ∧ alpha.contains c = true ∧ many ≤ size (pcs d) ∧ ∀ H', Same H H' → Q (.int ((((spell (pcs d)).take many).count c : Nat) : Int)) H'
theorem ok_count (T : Txt K mg) : FnOk P w K mg base CX0 7 T.f_count.f T.f_count.fd ["text", "sign", "many"] (spCount K) := by
  refine T.f_count.F.ok sc_count (fun vs H Q E h => ?_) (fun cdv A outer s H vs Q E hr h => ?_)
  · obtain ⟨v, d, place, c, rfl, _⟩ := h
    rfl
  obtain ⟨v, d, c, many, rfl, hv, ht, hc, hm, q⟩ := h
  have hg := Good.of ht
  refine ⟨_, (pss_cons (ps_expr (pe_call (ok_check_text T) (hr.mono (by decide)) (by rfl) T.f_check_text.g T.f_check_text.F.kp T.f_check_text.b .nil pass0 (pa_cons (pv 0) pa_nil)))
      (pss_cons (ps_expr (pe_call (ok_check_letter T) (hr.mono (by decide)) (by rfl) T.f_check_letter.g T.f_check_letter.F.kp T.f_check_letter.b .nil pass0 (pa_cons (pv 1) pa_nil)))
      (pss_cons (ps_set (i := 3) sc_count.nd rfl (.inl rfl) (pe_call (ok_spans_of T) (hr.mono (by decide)) (by rfl) T.f_spans_of.g T.f_spans_of.F.kp T.f_spans_of.b .nil pass0 (pa_cons (pv 0) pa_nil)))
      (pss_cons (ps_if (pt_not (pt_val (pe_call (ok_is_within T) (hr.mono (by decide)) (by rfl) T.f_is_within.g T.f_is_within.F.kp T.f_is_within.b .nil pass0 (pa_cons (pv 2) (pa_cons pe_int (pa_cons (pe_call (ok_end_of T) (hr.mono (by decide)) (by rfl) T.f_end_of.g T.f_end_of.F.kp T.f_end_of.b .nil pass0 (pa_cons (pv 3) pa_nil)) pa_nil)))))) (pss_one ps_never) pss_nil)
      (pss_cons (ps_set (i := 4) sc_count.nd rfl (.inl rfl) pe_int)
      (pss_cons (ps_for PassesOwn.never rfl (pi_list (pv 3)) (pg_tup rfl (pgs_cons (pg_name (i := 5) sc_count.nd rfl (.inl rfl)) (pgs_cons (pg_name (i := 6) sc_count.nd rfl (.inl rfl)) (pgs_cons (pg_name (i := 7) sc_count.nd rfl (.inl rfl)) pgs_nil))))
        (pss_one (ps_if (pt_cmpR op_lt (pv 5) (pv 2) (nomark _)) (pss_one (ps_aug (i := 4) sc_count.nd rfl (.inl rfl) (pe_call (ok_among T) (hr.mono (by decide)) (by rfl) T.f_among.g T.f_among.F.kp T.f_among.b .nil pass0 (pa_cons (pv 7) (pa_cons (pv 1) (pa_cons (pe_op op_sub (pe_callB (call_min2 rfl) (by rfl) T.b_min (by decide +kernel) (pa_cons (pv 6) (pa_cons (pv 2) pa_nil))) (pv 5)) pa_nil)))) ip_add)) pss_nil)))
      (pss_one (ps_ret (pv 4))))))))), ?_⟩
  walk_at "rd"
  refine ⟨v, rfl, v, d, rfl, hv, ht, fun H1 s1 => ?_⟩
  refine ⟨_, rfl, c, rfl, hc, ?_⟩
  refine ⟨v, rfl, v, pcs d, rfl, (textAt_of hv ht).same s1, hg, fun H2 a s2 hs => ?_⟩
  refine ⟨_, rfl, _, rfl, a, pcs d, rfl, hs, _, .int many, 0, _, rfl, at_int, _, rfl, ?_⟩
  rw [within_ok (by omega) (by omega)]
  refine iteF ?_
  obtain ⟨us, ha, hus⟩ := hs
  refine fr_list ?_
  walk_at "rd"
  refine ⟨_, rfl, a, rfl, ⟨_, SqL.of ha⟩, ForGo.list (xs := us)
    (fun i σ H3 => ∃ y1 y2 y3, σ = [some v, some (.str (tx [c])), some (.int (many : Int)), some (.ref a), some (.int ((((spell ((pcs d).take i)).take many).count c : Nat) : Int)), y1, y2, y3] ∧ Same H2 H3)
    ⟨none, none, none, by rw [List.take_zero, spell_nil, List.take_nil]; rfl, Same.refl _⟩ (fun i σ H3 _ ⟨_, _, _, _, s3⟩ => SqL.of (s3 _ _ ha)) ?_ ?_⟩
  · rintro i x σ H3 hx ⟨y1, y2, y3, rfl, s3⟩
    obtain ⟨sp, hsp, b, rfl, hb⟩ := prd_at hus hx
    obtain ⟨p, hp, rfl⟩ := spansOf_at _ hsp
    have hgp := good_w hg p (List.mem_of_getElem? hp)
    have hsz : (spell ((pcs d).take i)).length = size ((pcs d).take i) := spell_len _
    have happ := count_app (spell ((pcs d).take i)) (rep p.1 p.2) c many
    have hmul : p.2 * p.1.length = p.1.length * p.2 := Nat.mul_comm _ _
    rw [← spell_take_succ hp, rep_len, hsz, hmul] at happ
    walk_at "rd"
    refine ⟨b, _, rfl, SqT.of (s3 _ _ hb), rfl, _, _, rfl, _, _, rfl, _, _, rfl, rfl, ?_⟩
    refine ⟨_, rfl, _, rfl, _, _, rfl, rfl, _, rfl, ite2 (fun e => ?_) (fun e => ?_)⟩
    · have hlt : size ((pcs d).take i) < many := by have := of_decide_eq_true e; omega
      refine ⟨_, rfl, _, rfl, _, rfl, _, rfl, _, rfl, _, _, rfl, _, rfl, _, _, rfl, rfl, ?_⟩
      have emin : (if (many : Int) < ((size ((pcs d).take i) + p.1.length * p.2 : Nat) : Int) then (many : Int) else ((size ((pcs d).take i) + p.1.length * p.2 : Nat) : Int)) - ((size ((pcs d).take i) : Nat) : Int) = ((min (size ((pcs d).take i) + p.1.length * p.2) many - size ((pcs d).take i) : Nat) : Int) := by
        split <;> omega
      refine ⟨p.1, c, min (size ((pcs d).take i) + p.1.length * p.2) many - size ((pcs d).take i), ?_, hgp.1, hgp.2, fun H4 s4 => ⟨_, _, rfl, rfl, ?_⟩⟩
      · show [V.str (tx p.1), V.str (tx [c]), V.int _] = _
        rw [← emin]
      · rw [rep_take_count hgp.1 c (by rw [hmul]; omega)] at happ
        rw [happ, Int.natCast_add]
        exact ⟨_, _, _, rfl, s3.trans s4⟩
    · have hge : many ≤ size ((pcs d).take i) := by
        have : ¬ (((size ((pcs d).take i) : Nat) : Int) < (many : Int)) := fun z => e (decide_eq_true z)
        omega
      rw [show min (size ((pcs d).take i) + p.1.length * p.2) many - size ((pcs d).take i) = 0 by omega, List.take_zero, List.count_nil, Nat.add_zero] at happ
      rw [happ]
      exact ⟨_, _, _, rfl, s3⟩
  · rintro σ H3 ⟨y1, y2, y3, rfl, s3⟩
    have hul := prd_len hus
    rw [spansOf_len] at hul
    rw [hul, List.take_length]
    exact ⟨_, rfl, q _ ((s1.trans s2).trans s3)⟩

def spNth (K : PySem.W.Frag) : Sp := fun vs H Q _ => ∃ (v : V) (d : Dt) (c k : Nat), vs = [v, .str (tx [c]), .int (k : Int)] ∧ At K H v d ∧ isText d = true ∧ alpha.contains c = true ∧
  (∀ H' i, Same H H' → IsNth (spell (pcs d)) c k i → Q (.int (i : Int)) H') ∧ (∀ H', Same H H' → (spell (pcs d)).count c ≤ k → Q .non H')
theorem ok_nth (T : Txt K mg) : FnOk P w K mg base CX0 7 T.f_nth.f T.f_nth.fd ["text", "sign", "number"] (spNth K) := by
  refine T.f_nth.F.ok sc_nth (fun vs H Q E h => ?_) (fun cdv A outer s H vs Q E hr h => ?_)
  · obtain ⟨v, d, place, c, rfl, _⟩ := h
    rfl
  obtain ⟨v, d, c, k, rfl, hv, ht, hc, q1, q2⟩ := h
  have hg := Good.of ht
  refine ⟨_, (pss_cons (ps_expr (pe_call (ok_check_text T) (hr.mono (by decide)) (by rfl) T.f_check_text.g T.f_check_text.F.kp T.f_check_text.b .nil pass0 (pa_cons (pv 0) pa_nil)))
      (pss_cons (ps_expr (pe_call (ok_check_letter T) (hr.mono (by decide)) (by rfl) T.f_check_letter.g T.f_check_letter.F.kp T.f_check_letter.b .nil pass0 (pa_cons (pv 1) pa_nil)))
      (pss_cons (ps_if (pt_not (pt_val (pe_call (ok_is_whole T) (hr.mono (by decide)) (by rfl) T.f_is_whole.g T.f_is_whole.F.kp T.f_is_whole.b .nil pass0 (pa_cons (pv 2) (pa_cons pe_int pa_nil))))) (pss_one ps_never) pss_nil)
      (pss_cons (ps_set (i := 3) sc_nth.nd rfl (.inl rfl) pe_int)
      (pss_cons (ps_for PassesOwn.never rfl (pi_list (pe_call (ok_spans_of T) (hr.mono (by decide)) (by rfl) T.f_spans_of.g T.f_spans_of.F.kp T.f_spans_of.b .nil pass0 (pa_cons (pv 0) pa_nil))) (pg_tup rfl (pgs_cons (pg_name (i := 4) sc_nth.nd rfl (.inl rfl)) (pgs_cons (pg_name (i := 5) sc_nth.nd rfl (.inl rfl)) (pgs_cons (pg_name (i := 6) sc_nth.nd rfl (.inl rfl)) pgs_nil))))
        (pss_cons (ps_set (i := 7) sc_nth.nd rfl (.inl rfl) (pe_call (ok_among T) (hr.mono (by decide)) (by rfl) T.f_among.g T.f_among.F.kp T.f_among.b .nil pass0 (pa_cons (pv 6) (pa_cons (pv 1) (pa_cons (pe_op op_sub (pv 5) (pv 4)) pa_nil)))))
      (pss_cons (ps_if (pt_cmpR op_lt (pv 2) (pe_op op_add (pv 3) (pv 7)) (nomark _)) (pss_one (ps_ret (pe_op op_add (pv 4) (pe_call (ok_nth_again T) (hr.mono (by decide)) (by rfl) T.f_nth_again.g T.f_nth_again.F.kp T.f_nth_again.b .nil pass0 (pa_cons (pv 6) (pa_cons (pv 1) (pa_cons (pe_op op_sub (pv 2) (pv 3)) pa_nil))))))) pss_nil)
      (pss_one (ps_aug (i := 3) sc_nth.nd rfl (.inl rfl) (pv 7) ip_add)))))
      (pss_one (ps_ret pe_non))))))), ?_⟩
  walk_at "rd"
  refine ⟨v, rfl, v, d, rfl, hv, ht, fun H1 s1 => ?_⟩
  refine ⟨_, rfl, c, rfl, hc, ?_⟩
  refine ⟨_, rfl, _, .int k, 0, rfl, at_int, _, rfl, ?_⟩
  have e0 : isWhole (.int (k : Int)) 0 = true := by
    show decide ((0 : Int) ≤ (k : Int)) = true
    exact decide_eq_true (by omega)
  rw [e0]
  refine iteF ?_
  refine fr_list ?_
  walk_at "rd"
  refine ⟨v, rfl, v, pcs d, rfl, (textAt_of hv ht).same s1, hg, fun H2 a s2 hs => ?_⟩
  obtain ⟨us, ha, hus⟩ := hs
  refine ⟨a, rfl, ⟨_, SqL.of ha⟩, ForGo.list (xs := us)
    (fun i σ H3 => ∃ y1 y2 y3 y4, σ = [some v, some (.str (tx [c])), some (.int (k : Int)), some (.int (((spell ((pcs d).take i)).count c : Nat) : Int)), y1, y2, y3, y4] ∧ Same H2 H3 ∧ (spell ((pcs d).take i)).count c ≤ k)
    ⟨none, none, none, none, rfl, Same.refl _, Nat.zero_le _⟩ (fun i σ H3 _ ⟨_, _, _, _, _, s3, _⟩ => SqL.of (s3 _ _ ha)) ?_ ?_⟩
  · rintro i x σ H3 hx ⟨y1, y2, y3, y4, rfl, s3, hk⟩
    obtain ⟨sp, hsp, b, rfl, hb⟩ := prd_at hus hx
    obtain ⟨p, hp, rfl⟩ := spansOf_at _ hsp
    have hgp := good_w hg p (List.mem_of_getElem? hp)
    have hmul : p.2 * p.1.length = p.1.length * p.2 := Nat.mul_comm _ _
    have hcut : spell (pcs d) = spell ((pcs d).take (i + 1)) ++ spell ((pcs d).drop (i + 1)) := by rw [← spell_app, List.take_append_drop]
    have hall := rep_take_count (n := p.2) (m := p.1.length * p.2) hgp.1 c (by rw [hmul]; exact Nat.le_refl _)
    rw [List.take_of_length_le (by rw [rep_len, hmul]; exact Nat.le_refl _)] at hall
    walk_at "rd"
    refine ⟨b, _, rfl, SqT.of (s3 _ _ hb), rfl, _, _, rfl, _, _, rfl, _, _, rfl, rfl, ?_⟩
    have esub : ((size ((pcs d).take i) + p.1.length * p.2 : Nat) : Int) - ((size ((pcs d).take i) : Nat) : Int) = ((p.1.length * p.2 : Nat) : Int) := by omega
    refine ⟨_, rfl, _, rfl, _, rfl, _, rfl, _, _, rfl, rfl, p.1, c, p.1.length * p.2, ?_, hgp.1, hgp.2, fun H4 s4 => ?_⟩
    · show [V.str (tx p.1), V.str (tx [c]), V.int _] = _
      rw [← esub]
    rw [← hall]
    refine ⟨_, rfl, _, rfl, _, rfl, _, _, rfl, rfl, _, _, rfl, rfl, _, rfl, ite2 (fun e => ?_) (fun e => ?_)⟩
    · have hlt : k < (spell ((pcs d).take i)).count c + (rep p.1 p.2).count c := by have := of_decide_eq_true e; omega
      have ek : (k : Int) - (((spell ((pcs d).take i)).count c : Nat) : Int) = ((k - (spell ((pcs d).take i)).count c : Nat) : Int) := by omega
      rw [rep_count] at hlt
      have hcx : c ∈ p.1 := by
        rw [← List.count_pos_iff]
        rcases Nat.eq_zero_or_pos (p.1.count c) with z | z
        · rw [z, Nat.mul_zero] at hlt
          omega
        · exact z
      refine ⟨_, rfl, _, rfl, _, rfl, _, rfl, _, rfl, _, _, rfl, rfl, p.1, c, k - (spell ((pcs d).take i)).count c, ?_, hgp.1, hgp.2, hcx, fun H5 j s5 hj => ⟨_, _, rfl, rfl, ?_⟩⟩
      · show [V.str (tx p.1), V.str (tx [c]), V.int _] = _
        rw [← ek]
      · show Q (.int (((size ((pcs d).take i) : Nat) : Int) + (j : Int))) H5
        rw [← Int.natCast_add, ← spell_len]
        refine q1 _ _ ((((s1.trans s2).trans s3).trans s4).trans s5) ?_
        rw [hcut, spell_take_succ hp]
        refine nth_app_left ?_
        have := nth_app_right (A := spell ((pcs d).take i)) (hj p.2 (by omega))
        rw [show (spell ((pcs d).take i)).count c + (k - (spell ((pcs d).take i)).count c) = k by omega] at this
        exact this
    · have hge : (spell ((pcs d).take i)).count c + (rep p.1 p.2).count c ≤ k := by
        have : ¬ ((k : Int) < (((spell ((pcs d).take i)).count c : Nat) : Int) + (((rep p.1 p.2).count c : Nat) : Int)) := fun z => e (decide_eq_true z)
        omega
      refine ⟨_, rfl, _, rfl, _, _, rfl, rfl, ?_⟩
      rw [spell_take_succ hp, List.count_append, Int.natCast_add]
      exact ⟨_, _, _, _, rfl, s3.trans s4, hge⟩
  · rintro σ H3 ⟨y1, y2, y3, y4, rfl, s3, hk⟩
    have hul := prd_len hus
    rw [spansOf_len] at hul
    rw [hul, List.take_length] at hk
    walk_at "rd"
    exact q2 _ ((s1.trans s2).trans s3) hk

theorem prd_app {α β : Type} {R : α → β → Prop} {xs xs' : List α} {ys ys' : List β} (h : Paired R xs ys) (h' : Paired R xs' ys') : Paired R (xs ++ xs') (ys ++ ys') := by
  induction h with
  | nil => exact h'
  | cons a t ih => exact .cons a ih
/-! ## where two texts part -/
def spSplitAt : Sp := fun vs H Q _ => ∃ x y : List Nat, vs = [.str (tx x), .str (tx y)] ∧ x.length ≤ 1000000 ∧ y.length ≤ 1000000 ∧ x ≠ y ∧ ∀ i : Nat, Unlike x y i → Q (.int (i : Int)) H
theorem ok_split_at (T : Txt K mg) : FnOk P w K mg base CX0 1 T.f_split_at.f T.f_split_at.fd ["one", "other"] spSplitAt := by
  refine T.f_split_at.F.ok sc_split_at (fun vs H Q E h => ?_) (fun cdv A outer s H vs Q E hr h => ?_)
  · obtain ⟨x, y, rfl, _⟩ := h
    rfl
  obtain ⟨x, y, rfl, hx, hy, hne, q⟩ := h
  refine ⟨_, (pss_cons (ps_set (i := 2) sc_split_at.nd rfl (.inl rfl) (pe_callB (call_min2 rfl) (by rfl) T.b_min (by decide +kernel) (pa_cons (pe_callB (call_lenK K) (by rfl) T.b_len (by decide +kernel) (pa_cons (pv 0) pa_nil)) (pa_cons (pe_callB (call_lenK K) (by rfl) T.b_len (by decide +kernel) (pa_cons (pv 1) pa_nil)) pa_nil))))
      (pss_cons (ps_for PassesOwn.never rfl (pi_range1 (by rfl) T.b_range (pa_cons (pv 2) pa_nil)) (pg_name (i := 3) sc_split_at.nd rfl (.inl rfl))
        (pss_one (ps_if (pt_cmpR op_ne (pe_ix ix_seq (pv 0) (pv 3) (fun _ _ => rfl)) (pe_ix ix_seq (pv 1) (pv 3) (fun _ _ => rfl)) (nomark _)) (pss_one (ps_ret (pv 3))) pss_nil)))
      (pss_one (ps_ret (pv 2))))), ?_⟩
  walk_at "rd"
  refine ⟨_, rfl, len_tx hx ⟨_, rfl, len_tx hy ⟨_, _, rfl, ?_⟩⟩⟩
  have em : (if (y.length : Int) < (x.length : Int) then (y.length : Int) else (x.length : Int)) = ((min x.length y.length : Nat) : Int) := by
    split <;> omega
  walk_at "rd"
  rw [em]
  refine fr_rng1 ?_
  walk_at "rd"
  refine ⟨_, rfl, _, rfl, by omega, by omega, ForGo.range
    (fun i σ H2 => ∃ z, σ = [some (.str (tx x)), some (.str (tx y)), some (.int ((min x.length y.length : Nat) : Int)), z] ∧ H2 = H ∧ x.take i = y.take i)
    ⟨none, rfl, rfl, rfl⟩ ?_ ?_⟩
  · rintro i σ H2 hi ⟨z, rfl, rfl, ht⟩
    have hi2 : i < x.length ∧ i < y.length := by omega
    have gx : x[i]? = some x[i] := List.getElem?_eq_getElem hi2.1
    have gy : y[i]? = some y[i] := List.getElem?_eq_getElem hi2.2
    have ax : atI x (0 + (i : Int)) = some x[i] := at_ofA (j := i) (by omega) gx
    have ay : atI y (0 + (i : Int)) = some y[i] := at_ofA (j := i) (by omega) gy
    walk_at "rd"
    refine ⟨_, rfl, _, rfl, ix_tx hx ax ⟨_, rfl, _, rfl, ix_tx hy ay ⟨rfl, _, rfl, ?_⟩⟩⟩
    by_cases e : x[i] = y[i]
    · rw [e, show (!decide (V.str (tx [y[i]]) = V.str (tx [y[i]]))) = false by rw [decide_eq_true rfl]; rfl]
      refine iteF ⟨_, rfl, rfl, ?_⟩
      rw [List.take_add_one, List.take_add_one, gx, gy, ht, e]
    · have en : (!decide (V.str (tx [x[i]]) = V.str (tx [y[i]]))) = true := by
        rw [decide_eq_false (fun z => e (by have := tx_inj (V.str.inj z); simpa using this))]
        rfl
      rw [en]
      refine iteT ⟨_, rfl, ?_⟩
      rw [Int.zero_add]
      exact q i ⟨ht, by rw [gx, gy]; intro z; exact e (Option.some.inj z)⟩
  · rintro σ H2 ⟨z, rfl, rfl, ht⟩
    walk_at "rd"
    refine ⟨_, rfl, q _ ⟨ht, fun e => ?_⟩⟩
    rw [show ((min x.length y.length : Nat) : Int).toNat = min x.length y.length from rfl] at ht
    by_cases h1 : x.length ≤ y.length
    · rw [Nat.min_eq_left h1] at e ht
      rw [List.getElem?_eq_none (Nat.le_refl _)] at e
      have h2 : y.length ≤ x.length := List.getElem?_eq_none_iff.mp e.symm
      rw [List.take_length, List.take_of_length_le h2] at ht
      exact hne ht
    · rw [Nat.min_eq_right (by omega)] at e ht
      rw [List.getElem?_eq_none (l := y) (Nat.le_refl _)] at e
      have h2 : x.length ≤ y.length := List.getElem?_eq_none_iff.mp e
      omega
def spFirstUnlike (K : PySem.W.Frag) : Sp := fun vs H Q _ => ∃ v u d e, vs = [v, u] ∧ At K H v d ∧ At K H u e ∧ isText d = true ∧ isText e = true ∧
  (∀ H' (i : Nat), Same H H' → Unlike (spell (pcs d)) (spell (pcs e)) i → Q (.int (i : Int)) H') ∧ (∀ H', Same H H' → spell (pcs d) = spell (pcs e) → Q .non H')
theorem spansOf_ends (ps : Pcs) {v : Nat} (h : v ∈ (spansOf 0 ps).map fun x => x.2.1) : ∃ k, k < ps.length ∧ v = size (ps.take (k + 1)) := by
  obtain ⟨x, hx, rfl⟩ := List.mem_map.mp h
  obtain ⟨k, hk⟩ := List.mem_iff_getElem?.mp hx
  obtain ⟨p, hp, rfl⟩ := spansOf_at ps hk
  exact ⟨k, (List.getElem?_eq_some_iff.mp hp).1, by rw [size_take_succ ps hp]⟩
theorem ends_spansOf (ps : Pcs) {k : Nat} (h : k < ps.length) : size (ps.take (k + 1)) ∈ (spansOf 0 ps).map fun x => x.2.1 := by
  have e := spansOf_get ps 0 k ps[k] (List.getElem?_eq_getElem h)
  refine List.mem_map.mpr ⟨_, List.mem_of_getElem? e, ?_⟩
  show 0 + size (ps.take k) + ps[k].1.length * ps[k].2 = _
  rw [size_take_succ ps (List.getElem?_eq_getElem h), Nat.zero_add]
theorem ok_first_unlike (T : Txt K mg) : FnOk P w K mg base CX0 7 T.f_first_unlike.f T.f_first_unlike.fd ["text", "other"] (spFirstUnlike K) := by
  refine T.f_first_unlike.F.ok sc_first_unlike (fun vs H Q E h => ?_) (fun cdv A outer s H vs Q E hr h => ?_)
  · obtain ⟨v, u, d, e, rfl, _⟩ := h
    rfl
  obtain ⟨v, u, d, e, rfl, hv, hu, hd, he, q1, q2⟩ := h
  have gd := Good.of hd
  have ge := Good.of he
  generalize hps : pcs d = ps at *
  generalize hqs : pcs e = qs at *
  refine ⟨_, (pss_cons (ps_expr (pe_call (ok_check_text T) (hr.mono (by decide)) (by rfl) T.f_check_text.g T.f_check_text.F.kp T.f_check_text.b .nil pass0 (pa_cons (pv 0) pa_nil)))
      (pss_cons (ps_expr (pe_call (ok_check_text T) (hr.mono (by decide)) (by rfl) T.f_check_text.g T.f_check_text.F.kp T.f_check_text.b .nil pass0 (pa_cons (pv 1) pa_nil)))
      (pss_cons (ps_set (i := 2) sc_first_unlike.nd rfl (.inl rfl) (pe_call (ok_spans_of T) (hr.mono (by decide)) (by rfl) T.f_spans_of.g T.f_spans_of.F.kp T.f_spans_of.b .nil pass0 (pa_cons (pv 0) pa_nil)))
      (pss_cons (ps_set (i := 3) sc_first_unlike.nd rfl (.inl rfl) (pe_call (ok_spans_of T) (hr.mono (by decide)) (by rfl) T.f_spans_of.g T.f_spans_of.F.kp T.f_spans_of.b .nil pass0 (pa_cons (pv 1) pa_nil)))
      (pss_cons (ps_set (i := 4) sc_first_unlike.nd rfl (.inl rfl) pe_int)
      (pss_cons (ps_for PassesOwn.never rfl (pi_list (pe_callB cr_sortedI (by rfl) T.b_sorted (by decide +kernel) (pa_cons (pe_lc (own := [("span", 9)]) rfl sc_first_unlike.nd (pi_list (pe_op op_cat (pv 2) (pv 3))) (blkOk_by (own := [("span", 9)]) (N := N_first_unlike) (sc := defScope s_first_unlike) (by decide +kernel)) (fun _ _ _ _ _ => (pg_name (i := 9) sc_first_unlike.nd rfl (.inl rfl))) (fun _ _ _ _ _ => pts_nil) (fun _ _ _ _ _ => (pe_ix (ix_seqK K) (pv 9) pe_int (fun _ _ => rfl)))) pa_nil))) (pg_name (i := 5) sc_first_unlike.nd rfl (.inl rfl))
        (pss_cons (ps_set (i := 6) sc_first_unlike.nd rfl (.inl rfl) (pe_callB (call_min2 rfl) (by rfl) T.b_min (by decide +kernel) (pa_cons (pe_op op_sub (pv 5) (pv 4)) (pa_cons (pe_c_TWO_WORDS T) pa_nil))))
      (pss_cons (ps_set (i := 7) sc_first_unlike.nd rfl (.inl rfl) (pe_call (ok_look T) (hr.mono (by decide)) (by rfl) T.f_look.g T.f_look.F.kp T.f_look.b .nil pass0 (pa_cons (pv 2) (pa_cons (pv 4) (pa_cons (pv 6) pa_nil)))))
      (pss_cons (ps_set (i := 8) sc_first_unlike.nd rfl (.inl rfl) (pe_call (ok_look T) (hr.mono (by decide)) (by rfl) T.f_look.g T.f_look.F.kp T.f_look.b .nil pass0 (pa_cons (pv 3) (pa_cons (pv 4) (pa_cons (pv 6) pa_nil)))))
      (pss_cons (ps_if (pt_cmpR op_ne (pv 7) (pv 8) (nomark _)) (pss_one (ps_ret (pe_op op_add (pv 4) (pe_call (ok_split_at T) (hr.mono (by decide)) (by rfl) T.f_split_at.g T.f_split_at.F.kp T.f_split_at.b .nil pass0 (pa_cons (pv 7) (pa_cons (pv 8) pa_nil)))))) pss_nil)
      (pss_one (ps_set (i := 4) sc_first_unlike.nd rfl (.inl rfl) (pv 5))))))))
      (pss_one (ps_ret pe_non)))))))), ?_⟩
  walk_at "rd"
  refine ⟨_, rfl, v, d, rfl, hv, hd, fun H1 s1 => ?_⟩
  refine ⟨_, rfl, u, e, rfl, hu.same s1, he, fun H2 s2 => ?_⟩
  have s12 := s1.trans s2
  refine ⟨_, rfl, v, ps, rfl, by rw [← hps]; exact (textAt_of hv hd).same s12, gd, fun H3 a s3 ha => ?_⟩
  refine ⟨_, rfl, u, qs, rfl, by rw [← hqs]; exact (textAt_of hu he).same (s12.trans s3), ge, fun H4 b s4 hb => ?_⟩
  have s14 := (s12.trans s3).trans s4
  obtain ⟨us, hau, hus⟩ := ha.same s4
  obtain ⟨ws, hbw, hws⟩ := hb
  have hul := prd_len hus
  have hwl := prd_len hws
  rw [spansOf_len] at hul hwl
  have f1 := gd.few
  have f2 := ge.few
  have hall := prd_app hus hws
  refine fr_list ?_
  walk_at "rd"
  refine lc_lst ?_
  walk_at "rd"
  refine ⟨_, rfl, _, rfl, a, b, us, ws, rfl, rfl, hau, hbw, Nat.le_trans (show us.length + ws.length ≤ 80 by omega) (by decide), fun c nc => ?_⟩
  refine ⟨c, rfl, ⟨_, SqL.of upd_same⟩, fun D nD => ?_⟩
  have s5 : Same H4 (upd H4 c (.lst (us ++ ws))) := same_upd nc
  refine LcGo.list (xs := us ++ ws) (fun i H6 => Same (upd H4 c (.lst (us ++ ws))) H6 ∧ H6 D = some (.lst (((((spansOf 0 ps ++ spansOf 0 qs).map fun x => ((x.2.1 : Nat) : Int)).take i)).map V.int)))
    ⟨same_upd nD, upd_same⟩ (fun i H6 _ h => SqL.of (h.1 _ _ upd_same)) ?_ ?_
  · rintro i x H6 hx ⟨s6, hD⟩
    obtain ⟨y, hy, t, rfl, ht⟩ := prd_at hall hx
    walk_at "rd"
    refine ⟨rfl, _, rfl, ix_row (.inr (SqT.of ((s5.trans s6) _ _ ht))) (atI_nat (j := 1) rfl) ⟨_, hD, ?_, same_mut s6 nD, ?_⟩⟩
    · rw [List.length_map, List.length_take, List.length_map, List.length_append, spansOf_len, spansOf_len]
      exact Nat.lt_of_le_of_lt (show min i (ps.length + qs.length) ≤ 80 by omega) (by decide)
    · rw [upd_same, List.take_add_one, List.getElem?_map, hy, List.map_append (f := V.int)]
      rfl
  rintro H6 ⟨s6, hD⟩
  rw [List.take_of_length_le (by rw [List.length_map, ← prd_len hall]; exact Nat.le_refl _)] at hD
  walk_at "rd"
  refine ⟨D, _, rfl, SqL.of hD, fun ns r perm rising nr => ?_⟩
  have s46 : Same H4 (upd H6 r (.lst (ns.map V.int))) := (s5.trans s6).trans (same_upd nr)
  have hmem : ∀ z : Int, z ∈ ns → ∃ n : Nat, z = (n : Int) := fun z hz => by
    obtain ⟨x, _, rfl⟩ := List.mem_map.mp (perm.mem_iff.mp hz)
    exact ⟨x.2.1, rfl⟩
  have hinP : ∀ k, k < ps.length → ((size (ps.take (k + 1)) : Nat) : Int) ∈ ns := fun k hk => by
    refine perm.mem_iff.mpr ?_
    rw [List.map_append]
    obtain ⟨x, hx, he⟩ := List.mem_map.mp (ends_spansOf ps hk)
    exact List.mem_append_left _ (List.mem_map.mpr ⟨x, hx, congrArg Int.ofNat he⟩)
  have hinQ : ∀ k, k < qs.length → ((size (qs.take (k + 1)) : Nat) : Int) ∈ ns := fun k hk => by
    refine perm.mem_iff.mpr ?_
    rw [List.map_append]
    obtain ⟨x, hx, he⟩ := List.mem_map.mp (ends_spansOf qs hk)
    exact List.mem_append_right _ (List.mem_map.mpr ⟨x, hx, congrArg Int.ofNat he⟩)
  refine ⟨r, rfl, ⟨_, SqL.of upd_same⟩, ForGo.list (xs := ns.map V.int)
    (fun i σ H7 => ∃ (low : Nat) (y5 y6 y7 y8 y9 : Option V), σ = [some v, some u, some (.ref a), some (.ref b), some (.int (low : Int)), y5, y6, y7, y8, y9] ∧ Same (upd H6 r (.lst (ns.map V.int))) H7 ∧ (spell ps).take low = (spell qs).take low ∧ (∀ z ∈ ns.take i, z ≤ (low : Int)) ∧ ∀ z ∈ ns.drop i, (low : Int) ≤ z)
    ⟨0, none, none, none, none, none, rfl, Same.refl _, rfl, fun z hz => by rw [List.take_zero] at hz; (cases hz), fun z hz => by
      rw [List.drop_zero] at hz
      obtain ⟨n, rfl⟩ := hmem z hz
      omega⟩ (fun i σ H7 _ ⟨_, _, _, _, _, _, _, s7, _⟩ => SqL.of (s7 _ _ upd_same)) ?_ ?_⟩
  · rintro i x σ H7 hx ⟨low, y5, y6, y7, y8, y9, rfl, s7, hlow, hbelow, habove⟩
    rw [List.getElem?_map] at hx
    obtain ⟨z, hz, rfl⟩ : ∃ z, ns[i]? = some z ∧ x = V.int z := by
      cases ez : ns[i]? with
      | none => rw [ez] at hx; cases hx
      | some z => rw [ez] at hx; exact ⟨z, rfl, (Option.some.inj hx).symm⟩
    obtain ⟨high, rfl⟩ := hmem z (List.mem_of_getElem? hz)
    have hil := (List.getElem?_eq_some_iff.mp hz).1
    have hdrop : ns.drop i = (high : Int) :: ns.drop (i + 1) := by
      rw [List.drop_eq_getElem_cons hil, (List.getElem?_eq_some_iff.mp hz).2]
    have hlh : low ≤ high := by
      have := habove (high : Int) (by rw [hdrop]; exact List.mem_cons_self ..)
      omega
    have hup : ∀ z ∈ ns.drop (i + 1), (high : Int) ≤ z := by
      have hp := rising.drop (i := i)
      rw [hdrop] at hp
      exact (List.pairwise_cons.mp hp).1
    have hsplit : ∀ n : Nat, (n : Int) ∈ ns → n ≤ low ∨ high ≤ n := fun n hn => by
      rw [← List.take_append_drop i ns] at hn
      rcases List.mem_append.mp hn with hn | hn
      · have := hbelow _ hn
        omega
      · rw [hdrop] at hn
        rcases List.mem_cons.mp hn with hn | hn
        · omega
        · have := hup _ hn
          omega
    have s4H := s46.trans s7
    walk_at "rd"
    have em : (if (120 : Int) < (high : Int) - (low : Int) then (120 : Int) else (high : Int) - (low : Int)) = ((min (high - low) 120 : Nat) : Int) := by
      split <;> omega
    refine ⟨_, rfl, _, rfl, _, _, rfl, rfl, _, _, rfl, ?_⟩
    rw [em]
    refine ⟨_, rfl, _, rfl, _, rfl, a, ps, low, min (high - low) 120, rfl, ⟨us, s4H _ _ hau, prd_same (fun _ _ => SpanAt.same s4H) hus⟩, good_w gd, f1, by omega, fun H8 s8 => ?_⟩
    have s4H8 := s4H.trans s8
    refine ⟨_, rfl, _, rfl, _, rfl, b, qs, low, min (high - low) 120, rfl, ⟨ws, s4H8 _ _ hbw, prd_same (fun _ _ => SpanAt.same s4H8) hws⟩, good_w ge, f2, by omega, fun H9 s9 => ?_⟩
    have hA : (spell ps).length ≤ low ∨ (high ≤ (spell ps).length ∧ Round (spell ps) low high) ∨ low = high := by
      rw [spell_len]
      by_cases hlt : low < high
      · rcases round_of ps low high (good_w gd) hlt (fun k hk => hsplit _ (hinP k hk)) with h | h
        · exact .inl h
        · exact .inr (.inl h)
      · exact .inr (.inr (by omega))
    have hB : (spell qs).length ≤ low ∨ (high ≤ (spell qs).length ∧ Round (spell qs) low high) ∨ low = high := by
      rw [spell_len]
      by_cases hlt : low < high
      · rcases round_of qs low high (good_w ge) hlt (fun k hk => hsplit _ (hinQ k hk)) with h | h
        · exact .inl h
        · exact .inr (.inl h)
      · exact .inr (.inr (by omega))
    refine ⟨_, rfl, _, rfl, rfl, _, rfl, ?_⟩
    by_cases eq : ((spell ps).drop low).take (min (high - low) 120) = ((spell qs).drop low).take (min (high - low) 120)
    · rw [eq, show (!decide (V.str (tx (((spell qs).drop low).take (min (high - low) 120))) = V.str (tx (((spell qs).drop low).take (min (high - low) 120))))) = false by rw [decide_eq_true rfl]; rfl]
      refine iteF ⟨_, rfl, high, _, _, _, _, _, rfl, (s7.trans s8).trans s9, ?_, ?_, hup⟩
      · rcases hA with hA | hA | hA
        · rcases hB with hB | hB | hB
          · exact alike_on hlh hlow (.inl hA) (.inl hB) eq
          · exact alike_on hlh hlow (.inl hA) (.inr hB) eq
          · rw [← hB]; exact hlow
        · rcases hB with hB | hB | hB
          · exact alike_on hlh hlow (.inr hA) (.inl hB) eq
          · exact alike_on hlh hlow (.inr hA) (.inr hB) eq
          · rw [← hB]; exact hlow
        · rw [← hA]; exact hlow
      · intro z hzm
        rw [List.take_add_one, hz] at hzm
        rcases List.mem_append.mp hzm with hzm | hzm
        · have := hbelow z hzm
          omega
        · have : z = (high : Int) := by simpa using hzm
          omega
    · rw [show (!decide (V.str (tx (((spell ps).drop low).take (min (high - low) 120))) = V.str (tx (((spell qs).drop low).take (min (high - low) 120))))) = true by rw [decide_eq_false (fun z => eq (tx_inj (V.str.inj z)))]; rfl]
      refine iteT ⟨_, rfl, _, rfl, _, rfl, _, _, rfl, ?_, ?_, eq, fun j hj => ⟨_, _, rfl, rfl, ?_⟩⟩
      · rw [List.length_take]; omega
      · rw [List.length_take]; omega
      · show Q (.int ((low : Int) + (j : Int))) H9
        rw [← Int.natCast_add]
        exact q1 _ _ ((s14.trans s4H8).trans s9) (unlike_on hlow hj)
  · rintro σ H7 ⟨low, y5, y6, y7, y8, y9, rfl, s7, hlow, hbelow, habove⟩
    rw [List.length_map, List.take_length] at hbelow
    have hA : size ps ≤ low := by
      by_cases hp0 : ps.length = 0
      · rw [List.eq_nil_of_length_eq_zero hp0]
        exact Nat.zero_le _
      · have := hbelow _ (hinP (ps.length - 1) (by omega))
        rw [show ps.length - 1 + 1 = ps.length by omega, List.take_length] at this
        omega
    have hB : size qs ≤ low := by
      by_cases hp0 : qs.length = 0
      · rw [List.eq_nil_of_length_eq_zero hp0]
        exact Nat.zero_le _
      · have := hbelow _ (hinQ (qs.length - 1) (by omega))
        rw [show qs.length - 1 + 1 = qs.length by omega, List.take_length] at this
        omega
    rw [List.take_of_length_le (by rw [spell_len]; exact hA), List.take_of_length_le (by rw [spell_len]; exact hB)] at hlow
    walk_at "rd"
    exact q2 _ ((s14.trans s46).trans s7) hlow

/-! ## the law's own draws -/
theorem fresh_back' {H H' : Hp} {p : Addr} (e : Same H H') (h : H' p = none) : H p = none := e.free h
def Spr (H : Hp) (p : Addr) : Prop := ∃ F S C : Int, H p = some (.lst [.int F, .int S, .int C]) ∧ 0 ≤ F ∧ 0 ≤ S ∧ S < 2305843009213693951 ∧ 0 ≤ C
/-- all but the spring at p is as it was -/
structure Go (p : Addr) (H H' : Hp) : Prop where
  keep : ∀ b o, b ≠ p → H b = some o → H' b = some o
  spr : Spr H' p
theorem Go.trans {p : Addr} {H H1 H2 : Hp} (a : Go p H H1) (b : Go p H1 H2) : Go p H H2 := ⟨fun c o hc h => b.keep c o hc (a.keep c o hc h), b.spr⟩
theorem Spr.same {p : Addr} {H H' : Hp} (h : Spr H p) (e : Same H H') : Spr H' p := by
  obtain ⟨F, S, C, h1, h2⟩ := h
  exact ⟨F, S, C, e _ _ h1, h2⟩
theorem Go.of_same {p : Addr} {H H' : Hp} (h : Spr H p) (e : Same H H') : Go p H H' := ⟨fun b o _ k => e b o k, h.same e⟩
theorem Go.refl {p : Addr} {H : Hp} (h : Spr H p) : Go p H H := ⟨fun _ _ _ k => k, h⟩
theorem Go.same {p : Addr} {H H1 H2 : Hp} (a : Go p H H1) (e : Same H1 H2) : Go p H H2 := a.trans (.of_same a.spr e)
theorem Spr.ne {p b : Addr} {H : Hp} (h : Spr H p) (hb : H b = none) : b ≠ p := fun z => by
  obtain ⟨F, S, C, h1, _⟩ := h
  rw [z, h1] at hb
  cases hb
theorem pow60 : (10 : Nat) ^ 60 ≤ 2 ^ 200 := by decide +kernel
theorem fig_step {F r : Int} {n : Nat} (h0 : 0 ≤ F) (h : F.natAbs < 2 ^ n) (r0 : 0 ≤ r) (hr : r < 1000000000000000000000000000000000000000000000000000000000000) : 0 ≤ F * 1000000000000000000000000000000000000000000000000000000000000 + r ∧ (F * 1000000000000000000000000000000000000000000000000000000000000 + r).natAbs < 2 ^ (n + 200) := by
  obtain ⟨f, rfl⟩ := Int.eq_ofNat_of_zero_le h0
  obtain ⟨g, rfl⟩ := Int.eq_ofNat_of_zero_le r0
  have e : ((f : Int) * 1000000000000000000000000000000000000000000000000000000000000 + (g : Int)) = ((f * 1000000000000000000000000000000000000000000000000000000000000 + g : Nat) : Int) := by
    rw [Int.natCast_add, Int.natCast_mul]
    rfl
  rw [e]
  refine ⟨Int.natCast_nonneg _, ?_⟩
  rw [Int.natAbs_natCast] at h ⊢
  have hg : g < 1000000000000000000000000000000000000000000000000000000000000 := by omega
  have h1 : f * 1000000000000000000000000000000000000000000000000000000000000 + g < (f + 1) * 1000000000000000000000000000000000000000000000000000000000000 := by
    rw [Nat.add_mul, Nat.one_mul]
    omega
  have h2 : (f + 1) * 1000000000000000000000000000000000000000000000000000000000000 ≤ 2 ^ n * 2 ^ 200 := Nat.mul_le_mul h pow60
  rw [Nat.pow_add]
  exact Nat.lt_of_lt_of_le h1 h2
theorem cut63 (xs : List V) (h : xs.length ≤ 63) : cutV xs none (some 63) = xs := by
  unfold cutV
  rw [HT.sIx_none, show HT.sIx xs.length xs.length (some 63) = min 63 xs.length from HT.sIx_nat xs.length xs.length 63, List.drop_zero, Nat.sub_zero, Nat.min_eq_right h, List.take_length]
def spSpring (K : PySem.W.Frag) : Sp := fun vs H Q _ => ∃ (a : Addr) (ns : List Int), vs = [.ref a] ∧ SqL K H a (ns.map V.int) ∧ ns.length ≤ 63 ∧ ∀ H' p, Same H H' → H p = none → Spr H' p → Q (.ref p) H'
theorem ok__law_spring (T : Txt K mg) : FnOk P w K mg base CX0 1 T.f__law_spring.f T.f__law_spring.fd ["script"] (spSpring K) := by
  refine T.f__law_spring.F.ok sc__law_spring (fun vs H Q E h => ?_) (fun cdv A outer s H vs Q E hr h => ?_)
  · obtain ⟨v, d, rfl, _⟩ := h
    rfl
  obtain ⟨a, ns, rfl, hs, hlen, q⟩ := h
  refine ⟨_, (pss_cons (ps_set (i := 1) sc__law_spring.nd rfl (.inl rfl) pe_int)
      (pss_cons (ps_set (i := 2) sc__law_spring.nd rfl (.inl rfl) pe_int)
      (pss_cons (ps_for PassesOwn.never rfl (pi_list (pe_slice sl_list (pv 0) po_none (po_some pe_int))) (pg_name (i := 3) sc__law_spring.nd rfl (.inl rfl))
        (pss_cons (ps_if (pt_cmpR op_ge (pe_callB call_abs (by rfl) T.b_abs (by decide +kernel) (pa_cons (pv 3) pa_nil)) (pe_op op_pow pe_int pe_int) (nomark _)) (pss_one (ps_set (i := 1) sc__law_spring.nd rfl (.inl rfl) (pe_op op_add (pe_op op_mulW (pv 1) (pe_op op_pow pe_int pe_int)) (pe_op op_mod (pe_callB call_abs (by rfl) T.b_abs (by decide +kernel) (pa_cons (pv 3) pa_nil)) (pe_op op_pow pe_int pe_int))))) pss_nil)
      (pss_one (ps_set (i := 2) sc__law_spring.nd rfl (.inl rfl) (pe_op op_mod (pe_op op_add (pe_op op_add (pe_op op_mul (pv 2) pe_int) (pe_op op_mod (pv 3) pe_int)) pe_int) pe_int)))))
      (pss_one (ps_ret (pe_lst (pa_cons (pv 1) (pa_cons (pv 2) (pa_cons pe_int pa_nil))))))))), ?_⟩
  walk_at "rd"
  refine fr_list ?_
  walk_at "rd"
  refine ⟨_, rfl, 63, rfl, a, ns.map V.int, rfl, hs, fun b nb => ?_⟩
  rw [cut63 _ (by rw [List.length_map]; exact hlen)]
  refine ⟨b, rfl, ⟨_, SqL.of upd_same⟩, ForGo.list (xs := ns.map V.int)
    (fun i σ H2 => ∃ (F S : Int) (y : Option V), σ = [some (.ref a), some (.int F), some (.int S), y] ∧ H2 = upd H b (.lst (ns.map V.int)) ∧ 0 ≤ F ∧ F.natAbs < 2 ^ (200 * i + 1) ∧ 0 ≤ S ∧ S < 2305843009213693951)
    ⟨0, 88651, none, rfl, rfl, by decide, by decide, by decide, by decide⟩ (fun i σ H2 _ ⟨_, _, _, _, e, _⟩ => by rw [e]; exact SqL.of upd_same) ?_ ?_⟩
  · rintro i x σ H2 hx ⟨F, S, y, rfl, rfl, hF0, hF, hS0, hS⟩
    rw [List.getElem?_map] at hx
    obtain ⟨c, hc, rfl⟩ : ∃ c, ns[i]? = some c ∧ V.int c = x := by
      cases e : ns[i]? with
      | none => rw [e] at hx; cases hx
      | some c => rw [e] at hx; exact ⟨c, rfl, Option.some.inj hx⟩
    have hi : i < ns.length := (List.getElem?_eq_some_iff.mp hc).1
    have hab : 0 ≤ (if c < 0 then -c else c) := by split <;> omega
    have hm1 : 0 ≤ (if c < 0 then -c else c) % 1000000000000000000000000000000000000000000000000000000000000 := Int.emod_nonneg _ (by decide)
    have hm2 : (if c < 0 then -c else c) % 1000000000000000000000000000000000000000000000000000000000000 < 1000000000000000000000000000000000000000000000000000000000000 := Int.emod_lt_of_pos _ (by decide)
    have stp := fig_step hF0 hF hm1 hm2
    walk_at "rd"
    have h60 : (10 : Int) ^ (Int.toNat 60) = 1000000000000000000000000000000000000000000000000000000000000 := by decide +kernel
    have hs1 : 0 ≤ (S * 69069 + c % 2305843009213693921 + 7) % 2305843009213693951 := Int.emod_nonneg _ (by decide)
    have hs2 : (S * 69069 + c % 2305843009213693921 + 7) % 2305843009213693951 < 2305843009213693951 := Int.emod_lt_of_pos _ (by decide)
    have hpw : 2 ^ (200 * i + 1) ≤ 2 ^ (200 * (i + 1) + 1) := Nat.pow_le_pow_right (by decide) (by omega)
    refine ⟨_, rfl, _, rfl, ⟨_, _, rfl, rfl, ⟨by decide, by decide, by decide⟩, _, _, rfl, rfl, _, rfl, ite2 (fun e => ?_) (fun e => ?_)⟩⟩
    · refine ⟨_, rfl, _, _, rfl, rfl, ⟨by decide, by decide, by decide⟩, ?_⟩
      walk_at "rd"
      rw [h60]
      refine ⟨_, _, rfl, rfl, wide_mul hF (b := 200) (by decide +kernel) (by omega) (by decide) (by omega), ?_⟩
      refine ⟨_, rfl, _, rfl, ⟨_, _, rfl, rfl, ⟨by decide, by decide, by decide⟩, ?_⟩⟩
      walk_at "rd"
      rw [h60]
      refine ⟨_, _, rfl, rfl, (show (0 : Int) < 1000000000000000000000000000000000000000000000000000000000000 by decide), _, _, rfl, rfl, ?_⟩
      refine ⟨_, rfl, _, _, rfl, rfl, .inl ⟨by omega, by omega⟩, _, rfl, _, _, rfl, rfl, (show (0 : Int) < 2305843009213693921 by decide), _, _, rfl, rfl, _, _, rfl, rfl, _, _, rfl, rfl, (show (0 : Int) < 2305843009213693951 by decide), ?_⟩
      exact ⟨_, _, _, rfl, rfl, stp.1, Nat.lt_of_lt_of_le stp.2 (Nat.pow_le_pow_right (by decide) (by omega)), hs1, hs2⟩
    · refine ⟨_, rfl, _, _, rfl, rfl, .inl ⟨by omega, by omega⟩, _, rfl, _, _, rfl, rfl, (show (0 : Int) < 2305843009213693921 by decide), _, _, rfl, rfl, _, _, rfl, rfl, _, _, rfl, rfl, (show (0 : Int) < 2305843009213693951 by decide), ?_⟩
      exact ⟨_, _, _, rfl, rfl, hF0, Nat.lt_of_lt_of_le hF hpw, hs1, hs2⟩
  · rintro σ H2 ⟨F, S, y, rfl, rfl, hF0, hF, hS0, hS⟩
    walk_at "rd"
    refine ⟨_, rfl, _, rfl, (by show 3 ≤ sizeLine; decide), fun p np => ?_⟩
    refine q _ p (fun c o e => ?_) ?_ ⟨F, S, 0, upd_same, hF0, hS0, hS, Int.le_refl _⟩
    · rw [upd_ne (ne_of_none ((same_upd nb) c o e) np)]
      exact same_upd nb c o e
    · exact fresh_back' (same_upd nb) np

def spDraw : Sp := fun vs H Q _ => ∃ (p : Addr) (m : Int), vs = [.ref p, .int m] ∧ Spr H p ∧ 0 < m ∧ m.natAbs < 2 ^ 250 ∧ ∀ H' r, Go p H H' → 0 ≤ r → r < m → Q (.int r) H'
theorem go_set {p : Addr} {H : Hp} {F S C : Int} (h1 : 0 ≤ F) (h2 : 0 ≤ S) (h3 : S < 2305843009213693951) (h4 : 0 ≤ C) : Go p H (upd H p (.lst [.int F, .int S, .int C])) :=
  ⟨fun b o hb e => by rw [upd_ne hb]; exact e, F, S, C, upd_same, h1, h2, h3, h4⟩
theorem ok__law_draw (T : Txt K mg) : FnOk P w K mg base CX0 1 T.f__law_draw.f T.f__law_draw.fd ["spring", "many"] spDraw := by
  refine T.f__law_draw.F.ok sc__law_draw (fun vs H Q E h => ?_) (fun cdv A outer s H vs Q E hr h => ?_)
  · obtain ⟨v, d, rfl, _⟩ := h
    rfl
  obtain ⟨p, m, rfl, ⟨F, S, C, hp, hF, hS, hS2, hC⟩, hm, hm2, q⟩ := h
  refine ⟨_, (pss_cons (ps_if (pt_cmpR op_gt (pe_ix ix_seq (pv 0) pe_int (fun _ _ => rfl)) pe_int (nomark _)) (pss_cons (ps_set (i := 2) sc__law_draw.nd rfl (.inl rfl) (pe_op op_mod (pe_ix ix_seq (pv 0) pe_int (fun _ _ => rfl)) (pv 1)))
      (pss_cons (ps_asg (pe_op op_fdivW (pe_ix ix_seq (pv 0) pe_int (fun _ _ => rfl)) (pv 1)) (pg_sub (pv 0) pe_int set_list))
      (pss_one (ps_ret (pv 2))))) pss_nil)
      (pss_cons (ps_asg (pe_op op_add (pe_ix ix_seq (pv 0) pe_int (fun _ _ => rfl)) pe_int) (pg_sub (pv 0) pe_int set_list))
      (pss_cons (ps_set (i := 3) sc__law_draw.nd rfl (.inl rfl) (pe_op op_mod (pe_op op_mul (pe_ix ix_seq (pv 0) pe_int (fun _ _ => rfl)) (pe_ix ix_seq (pv 0) pe_int (fun _ _ => rfl))) pe_int))
      (pss_cons (ps_asg (pe_op op_mod (pe_op op_add (pe_op op_add (pv 3) (pe_op op_mul (pe_op op_mul pe_int (pe_ix ix_seq (pv 0) pe_int (fun _ _ => rfl))) (pe_ix ix_seq (pv 0) pe_int (fun _ _ => rfl)))) pe_int) pe_int) (pg_sub (pv 0) pe_int set_list))
      (pss_one (ps_ret (pe_op op_mod (pe_op op_fdiv (pe_ix ix_seq (pv 0) pe_int (fun _ _ => rfl)) pe_int) (pv 1)))))))), ?_⟩
  walk_at "rd"
  have at0 : ∀ {a b c : V}, atI [a, b, c] 0 = some a := fun {a b c} => rfl
  refine ⟨_, rfl, ix_lst hp (at_of (j := 0) rfl rfl) ⟨_, _, rfl, rfl, _, rfl, ite2 (fun e => ?_) (fun e => ?_)⟩⟩
  · refine ⟨_, rfl, ix_lst hp (at_of (j := 0) rfl rfl) ⟨_, rfl, _, _, rfl, rfl, hm, ?_⟩⟩
    refine ⟨_, rfl, ix_lst hp (at_of (j := 0) rfl rfl) ⟨_, rfl, _, _, rfl, rfl, wide_div hm hm2 (by decide) (by decide), ?_⟩⟩
    refine ⟨_, rfl, p, _, 0, 0, rfl, rfl, hp, rfl, _, rfl, ?_⟩
    exact q _ _ (go_set (Int.ediv_nonneg hF (by omega)) hS hS2 hC) (Int.emod_nonneg _ (by omega)) (Int.emod_lt_of_pos _ hm)
  · have hq1 : 0 ≤ S * S % 2305843009213693951 := Int.emod_nonneg _ (by decide)
    have hz1 : 0 ≤ (S * S % 2305843009213693951 + 7919 * (C + 1) * S + 104729) % 2305843009213693951 := Int.emod_nonneg _ (by decide)
    have hz2 : (S * S % 2305843009213693951 + 7919 * (C + 1) * S + 104729) % 2305843009213693951 < 2305843009213693951 := Int.emod_lt_of_pos _ (by decide)
    have b1 : -(2 ^ 64) < S ∧ S < 2 ^ 64 := by omega
    refine ⟨_, rfl, ix_lst hp (at_of (j := 2) rfl rfl) ⟨_, _, rfl, rfl, ?_⟩⟩
    refine ⟨_, rfl, p, _, 2, 2, rfl, rfl, hp, rfl, ?_⟩
    have hp2 : (upd H p (.lst [.int F, .int S, .int (C + 1)])) p = some (.lst [.int F, .int S, .int (C + 1)]) := upd_same
    refine ⟨_, rfl, ix_lst hp2 (at_of (j := 1) rfl rfl) ⟨_, rfl, ix_lst hp2 (at_of (j := 1) rfl rfl) ⟨_, _, rfl, rfl, .inl b1, _, _, rfl, rfl, (show (0 : Int) < 2305843009213693951 by decide), ?_⟩⟩⟩
    refine ⟨_, rfl, _, rfl, ix_lst hp2 (at_of (j := 2) rfl rfl) ⟨_, _, rfl, rfl, .inl ⟨by decide, by decide⟩, _, rfl, ix_lst hp2 (at_of (j := 1) rfl rfl) ⟨_, _, rfl, rfl, .inr b1, _, _, rfl, rfl, _, _, rfl, rfl, _, _, rfl, rfl, (show (0 : Int) < 2305843009213693951 by decide), ?_⟩⟩⟩
    refine ⟨_, rfl, p, _, 1, 1, rfl, rfl, hp2, rfl, ?_⟩
    have hp3 : (upd (upd H p (.lst [.int F, .int S, .int (C + 1)])) p (.lst [.int F, .int ((S * S % 2305843009213693951 + 7919 * (C + 1) * S + 104729) % 2305843009213693951), .int (C + 1)])) p = some (.lst [.int F, .int ((S * S % 2305843009213693951 + 7919 * (C + 1) * S + 104729) % 2305843009213693951), .int (C + 1)]) := upd_same
    refine ⟨_, rfl, ix_lst hp3 (at_of (j := 1) rfl rfl) ⟨_, _, rfl, rfl, ⟨by decide, by decide⟩, _, rfl, _, _, rfl, rfl, hm, ?_⟩⟩
    refine q _ _ ?_ (Int.emod_nonneg _ (by omega)) (Int.emod_lt_of_pos _ hm)
    exact ⟨fun b o hb e => by rw [upd_ne hb, upd_ne hb]; exact e, F, _, _, upd_same, hF, hz1, hz2, by omega⟩

/-! ## drawn words and texts -/
theorem pow300 {m : Int} {n : Nat} (h0 : 0 ≤ m) (h : m ≤ (n : Int)) (hn : n < 2 ^ 250) : m.natAbs < 2 ^ 250 := by omega
theorem small300 {m : Int} (h0 : 0 ≤ m) (h : m ≤ 1000000) : m.natAbs < 2 ^ 250 := Nat.lt_of_le_of_lt (show m.natAbs ≤ 1000000 by omega) (by decide)
theorem k_ab : ("ab" : Str) = tx [97, 98] := by decide +kernel
theorem k_a : ("a" : Str) = tx [97] := by decide +kernel
theorem k_zy : ("zy" : Str) = tx [122, 121] := by decide +kernel
def Kind (x : List Nat) : Prop := x ≠ [] ∧ x.length ≤ 26 ∧ Plain x
theorem kinds4 {r : Int} (h0 : 0 ≤ r) (h : r < 4) : ∃ x, atI [V.str "ab", V.str "a", V.str "abcdefghijklmnopqrstuvwxyz", V.str "zy"] r = some (.str (tx x)) ∧ Kind x := by
  have : r = 0 ∨ r = 1 ∨ r = 2 ∨ r = 3 := by omega
  rcases this with rfl | rfl | rfl | rfl
  · exact ⟨[97, 98], by rw [k_ab]; rfl, by simp, by simp, by show List.all _ _ = true; decide⟩
  · exact ⟨[97], by rw [k_a]; rfl, by simp, by simp, by show List.all _ _ = true; decide⟩
  · exact ⟨alpha, by rw [← tx_alpha]; rfl, by simp [alpha], by simp [alpha], by show List.all _ _ = true; decide⟩
  · exact ⟨[122, 121], by rw [k_zy]; rfl, by simp, by simp, by show List.all _ _ = true; decide⟩
theorem plain_mem {x : List Nat} (h : Plain x) {c : Nat} (hc : c ∈ x) : alpha.contains c = true := List.all_eq_true.mp h c hc
def spWord : Sp := fun vs H Q _ => ∃ (p : Addr) (m : Int), vs = [.ref p, .int m] ∧ Spr H p ∧ 1 ≤ m ∧ m ≤ 100000 ∧ ∀ H' x, Go p H H' → x ≠ [] → (x.length : Int) ≤ m → Plain x → Q (.str (tx x)) H'
theorem ok__law_word (T : Txt K mg) : FnOk P w K mg base CX0 2 T.f__law_word.f T.f__law_word.fd ["spring", "most"] spWord := by
  refine T.f__law_word.F.ok sc__law_word (fun vs H Q E h => ?_) (fun cdv A outer s H vs Q E hr h => ?_)
  · obtain ⟨v, d, rfl, _⟩ := h
    rfl
  obtain ⟨p, m, rfl, hp, hm, hm2, q⟩ := h
  refine ⟨_, (pss_cons (ps_set (i := 2) sc__law_word.nd rfl (.inr rfl) (pe_ix ix_seq (pe_lst (pa_cons pe_str (pa_cons pe_str (pa_cons pe_str (pa_cons pe_str pa_nil))))) (pe_call (ok__law_draw T) (hr.mono (by decide)) (by rfl) T.f__law_draw.g T.f__law_draw.F.kp T.f__law_draw.b .nil pass0 (pa_cons (pv 0) (pa_cons pe_int pa_nil))) (fun _ _ => rfl)))
      (pss_one (ps_ret (pe_join pe_str (pe_lc (own := [("k", 3)]) rfl sc__law_word.nd (pi_range1 (by rfl) T.b_range (pa_cons (pe_op op_add pe_int (pe_call (ok__law_draw T) (hr.mono (by decide)) (by rfl) T.f__law_draw.g T.f__law_draw.F.kp T.f__law_draw.b .nil pass0 (pa_cons (pv 0) (pa_cons (pv 1) pa_nil)))) pa_nil)) (blkOk_by (own := [("k", 3)]) (N := N__law_word) (sc := defScope s__law_word) (by decide +kernel)) (fun _ _ _ _ _ => (pg_name (i := 3) sc__law_word.nd rfl (.inl rfl))) (fun _ _ _ _ _ => pts_nil) (fun _ _ _ _ _ => (pe_ix (ix_seqK K) (pv 2) (pe_call (ok__law_draw T) (hr.mono (by decide)) (by rfl) T.f__law_draw.g T.f__law_draw.F.kp T.f__law_draw.b .nil pass0 (pa_cons (pv 0) (pa_cons (pe_callB (call_lenK K) (by rfl) T.b_len (by decide +kernel) (pa_cons (pv 2) pa_nil)) pa_nil))) (fun _ _ => rfl)))))))), ?_⟩
  walk_at "rd"
  refine ⟨by show 4 ≤ sizeLine; decide, fun l nl => ?_⟩
  have g0 := Go.of_same hp (same_upd (o := .lst [V.str "ab", V.str "a", V.str "abcdefghijklmnopqrstuvwxyz", V.str "zy"]) nl)
  have hlp : l ≠ p := hp.ne nl
  refine ⟨_, rfl, p, 4, rfl, g0.spr, by decide, by decide, fun H1 r g1 r0 r4 => ?_⟩
  obtain ⟨x, hx, hk⟩ := kinds4 r0 r4
  refine ix_lst (g1.keep _ _ hlp upd_same) hx ⟨⟨_, rfl⟩, lc_rng1 ?_⟩
  walk_at "rd"
  refine ⟨_, rfl, _, rfl, p, m, rfl, g1.spr, by omega, small300 (by omega) (by omega), fun H2 n g2 n0 nm => ?_⟩
  refine ⟨_, _, rfl, rfl, _, rfl, by omega, by omega, fun D nD => ?_⟩
  have hDp : D ≠ p := g2.spr.ne nD
  have hn : (1 + n).toNat ≤ m.toNat := by omega
  refine LcGo.range (fun i H3 => Go p H2 H3 ∧ ∃ ws : List Nat, H3 D = some (.lst (ws.map fun c => V.str (tx [c]))) ∧ ws.length = i ∧ Plain ws)
    ⟨.of_same g2.spr (same_upd nD), [], upd_same, rfl, rfl⟩ ?_ ?_
  · rintro i H3 hi ⟨g3, ws, hD, hws, hpl⟩
    walk_at "rd"
    refine ⟨rfl, _, rfl, _, rfl, _, rfl, len_tx (by have := hk.2.1; omega) ⟨p, x.length, rfl, g3.spr, ?_, small300 (by omega) (by have := hk.2.1; omega), fun H4 r g4 r0 rl => ?_⟩⟩
    · have := List.length_pos_iff.mpr hk.1
      omega
    obtain ⟨k, rfl⟩ := Int.eq_ofNat_of_zero_le r0
    have hkl : k < x.length := by omega
    refine ix_tx (show x.length ≤ 1000000 by have := hk.2.1; omega) (at_ofA (j := k) rfl (List.getElem?_eq_getElem hkl)) ?_
    refine ⟨_, g4.keep _ _ hDp hD, ?_, ⟨fun b o hb e => ?_, ?_⟩, ws ++ [x[k]], ?_, ?_, ?_⟩
    · rw [List.length_map, hws]
      exact Nat.lt_of_lt_of_le (show i < 100000 by omega) (by decide)
    · rw [upd_ne (ne_of_none e nD)]
      exact g4.keep b o hb (g3.keep b o hb e)
    · obtain ⟨F, S, C, h1, h2⟩ := g4.spr
      exact ⟨F, S, C, by rw [upd_ne hDp.symm]; exact h1, h2⟩
    · rw [upd_same, List.map_append]
      rfl
    · rw [List.length_append, hws]
      rfl
    · show (ws ++ [x[k]]).all _ = true
      rw [List.all_append, show ws.all (alpha.contains ·) = true from hpl, List.all_cons, plain_mem hk.2.2 (List.getElem_mem hkl)]
      rfl
  · rintro H3 ⟨g3, ws, hD, hws, hpl⟩
    walk_at "rd"
    have hmap : (ws.map fun c => [c]).map tx = ws.map fun c => tx [c] := by rw [List.map_map]; rfl
    have hfl : (ws.map fun c => [c]).flatten = ws := by
      clear hpl hws hmap hD
      induction ws with
      | nil => rfl
      | cons c ws ih => rw [List.map_cons, List.flatten_cons, ih]; rfl
    refine ⟨tx [], D, (ws.map fun c => [c]).map tx, rfl, rfl, .inl (SqL.of ?_), ?_, ?_⟩
    · rw [hmap, List.map_map]
      exact hD
    · have e1 : (((ws.map fun c => [c]).map tx).map (·.length)) = (ws.map fun c => [c]).map (·.length) := by rw [List.map_map]; exact List.map_congr_left fun x _ => tx_len x
      rw [e1, sum_le_len, hfl, tx_len, List.length_nil, Nat.mul_zero, hws]
      omega
    · rw [join_tx, hfl]
      refine q _ _ (((g0.trans g1).trans g2).trans g3) (fun z => ?_) (by omega) hpl
      rw [z] at hws
      have : (1 + n).toNat = 0 := hws.symm
      omega

/-- a drawn text: a list of tuples, none of them the spring -/
def PcT (p : Addr) (H : Hp) (v : V) (x : List Nat × Nat) : Prop := ∃ b, v = .ref b ∧ b ≠ p ∧ H b = some (.tup [.str (tx x.1), .int (x.2 : Int)])
def TxtL (p : Addr) (H : Hp) (a : Addr) (ps : Pcs) : Prop := a ≠ p ∧ ∃ xs, H a = some (.lst xs) ∧ Paired (PcT p H) xs ps
theorem PcT.go {p : Addr} {H H' : Hp} {v : V} {x : List Nat × Nat} (g : Go p H H') (h : PcT p H v x) : PcT p H' v x := by
  obtain ⟨b, rfl, hb, h⟩ := h
  exact ⟨b, rfl, hb, g.keep _ _ hb h⟩
theorem TxtL.go {p : Addr} {H H' : Hp} {a : Addr} {ps : Pcs} (g : Go p H H') (h : TxtL p H a ps) : TxtL p H' a ps := by
  obtain ⟨h1, xs, h2, h3⟩ := h
  exact ⟨h1, xs, g.keep _ _ h1 h2, prd_same (fun _ _ => PcT.go g) h3⟩
def dOf (ps : Pcs) : Dt := .lst (ps.map fun x => .tup [.str x.1, .int (x.2 : Int)])
theorem pcs_dOf (ps : Pcs) : pcs (dOf ps) = ps := by
  unfold pcs dOf
  show (ps.map fun x => Dt.tup [.str x.1, .int (x.2 : Int)]).map pcOf = ps
  rw [List.map_map]
  conv => rhs; rw [← List.map_id ps]
  refine List.map_congr_left fun x _ => ?_
  show ((x.1, ((x.2 : Int)).toNat) : List Nat × Nat) = id x
  rw [Int.toNat_natCast]
  rfl
theorem isText_dOf {ps : Pcs} (h : Good ps) : isText (dOf ps) = true := by
  have hl : ((dOf ps).items).length = ps.length := by
    show (ps.map fun x => Dt.tup [.str x.1, .int (x.2 : Int)]).length = _
    rw [List.length_map]
  have hall : ((dOf ps).items).all isPiece = true := by
    refine List.all_eq_true.mpr fun d hd => ?_
    obtain ⟨x, hx, rfl⟩ := List.mem_map.mp (show d ∈ ps.map fun x => Dt.tup [.str x.1, .int (x.2 : Int)] from hd)
    obtain ⟨hw, hn⟩ := h.ok x hx
    show (true && (isWord (.str x.1) && isWhole (.int (x.2 : Int)) 1)) = true
    have e1 : isWord (.str x.1) = true := by
      show (x.1.all (alpha.contains ·) && decide (x.1.length ≤ 60) && decide (x.1 ≠ [])) = true
      rw [show x.1.all (alpha.contains ·) = true from hw.1, decide_eq_true hw.2.2, decide_eq_true hw.2.1]
      rfl
    have e2 : isWhole (.int (x.2 : Int)) 1 = true := by
      show decide ((1 : Int) ≤ (x.2 : Int)) = true
      exact decide_eq_true (by omega)
    rw [e1, e2]
    rfl
  unfold isText
  rw [hl, hall, decide_eq_true h.few, sum_size hall]
  have e : (size ((dOf ps).items.map pcOf) : Int) = (size ps : Int) := by
    have := pcs_dOf ps
    unfold pcs at this
    rw [this]
  rw [e, decide_eq_true (by have := h.all; have : ((10 ^ 30 : Nat) : Int) = (10 ^ 30 : Int) := by decide
                            omega)]
  rfl
theorem TxtL.at {K : PySem.W.Frag} {p : Addr} {H : Hp} {a : Addr} {ps : Pcs} (h : TxtL p H a ps) (hg : ∀ x ∈ ps, x.1.length ≤ 60) : At K H (.ref a) (dOf ps) := by
  obtain ⟨_, xs, h2, h3⟩ := h
  unfold dOf At
  refine ⟨a, xs, rfl, SqL.of h2, ?_⟩
  clear h2
  induction h3 with
  | nil => unfold Ats; rfl
  | @cons v x xs ps hv t ih =>
    rw [List.map_cons]
    unfold Ats
    refine ⟨_, _, rfl, ?_, ih fun y hy => hg y (List.mem_cons_of_mem _ hy)⟩
    obtain ⟨b, rfl, _, hb⟩ := hv
    unfold At
    refine ⟨b, _, rfl, SqT.of hb, ?_⟩
    unfold Ats
    refine ⟨_, _, rfl, by unfold At; exact ⟨rfl, Nat.le_trans (hg x (List.mem_cons_self ..)) (by decide)⟩, ?_⟩
    unfold Ats
    refine ⟨_, _, rfl, by unfold At; rfl, ?_⟩
    unfold Ats
    rfl

theorem go_new {p t : Addr} {H H' : Hp} {o : HO} (g : Go p H H') (nt : H' t = none) : Go p H (upd H' t o) := g.same (same_upd nt)
theorem PcT.upd {p : Addr} {H : Hp} {v : V} {x : List Nat × Nat} {o : Addr} {us vs : List V} (ho : H o = some (.lst us)) (h : PcT p H v x) : PcT p (upd H o (.lst vs)) v x := by
  obtain ⟨b, rfl, hb, h⟩ := h
  exact ⟨b, rfl, hb, by rw [upd_ne (ne_of h ho (by intro z; cases z))]; exact h⟩
theorem go_mut {p o : Addr} {H H' : Hp} {x : HO} (g : Go p H H') (no : H o = none) (hop : o ≠ p) : Go p H (upd H' o x) := by
  refine ⟨fun b u hb e => by rw [upd_ne (ne_of_none e no)]; exact g.keep b u hb e, ?_⟩
  obtain ⟨F, S, C, h1, h2⟩ := g.spr
  exact ⟨F, S, C, by rw [upd_ne hop.symm]; exact h1, h2⟩
def OkP (wide times : Int) (x : List Nat × Nat) : Prop := Plain x.1 ∧ x.1 ≠ [] ∧ (x.1.length : Int) ≤ wide ∧ 1 ≤ x.2 ∧ (x.2 : Int) ≤ times
def spTextL : Sp := fun vs H Q _ => ∃ (p : Addr) (most wide times : Int), vs = [.ref p, .int most, .int wide, .int times] ∧ Spr H p ∧ 0 ≤ most ∧ most ≤ 10000 ∧ 1 ≤ wide ∧ wide ≤ 10000 ∧ 1 ≤ times ∧ times.natAbs < 2 ^ 250 ∧
  ∀ H' a ps, Go p H H' → H a = none → TxtL p H' a ps → (ps.length : Int) ≤ most → (∀ x ∈ ps, OkP wide times x) → Q (.ref a) H'
theorem ok__law_text (T : Txt K mg) : FnOk P w K mg base CX0 3 T.f__law_text.f T.f__law_text.fd ["spring", "most", "wide", "times"] spTextL := by
  refine T.f__law_text.F.ok sc__law_text (fun vs H Q E h => ?_) (fun cdv A outer s H vs Q E hr h => ?_)
  · obtain ⟨p, m, wd, tm, rfl, _⟩ := h
    rfl
  obtain ⟨p, most, wide, times, rfl, hp, hm, hm2, hw, hw2, ht, ht2, q⟩ := h
  refine ⟨_, (pss_cons (ps_set (i := 4) sc__law_text.nd rfl (.inl rfl) (pe_lst pa_nil))
      (pss_cons (ps_for PassesOwn.never rfl (pi_range1 (by rfl) T.b_range (pa_cons (pe_call (ok__law_draw T) (hr.mono (by decide)) (by rfl) T.f__law_draw.g T.f__law_draw.F.kp T.f__law_draw.b .nil pass0 (pa_cons (pv 0) (pa_cons (pe_op op_add (pv 1) pe_int) pa_nil))) pa_nil)) (pg_name (i := 5) sc__law_text.nd rfl (.inl rfl))
        (pss_one (ps_expr (pe_bm PySem.F.plainAttrs_list PySem.F.slot_list_append PySem.F.type_list_append mt_append (pv 4) (pa_cons (pe_tup (pa_cons (pe_call (ok__law_word T) (hr.mono (by decide)) (by rfl) T.f__law_word.g T.f__law_word.F.kp T.f__law_word.b .nil pass0 (pa_cons (pv 0) (pa_cons (pv 2) pa_nil))) (pa_cons (pe_op op_add pe_int (pe_call (ok__law_draw T) (hr.mono (by decide)) (by rfl) T.f__law_draw.g T.f__law_draw.F.kp T.f__law_draw.b .nil pass0 (pa_cons (pv 0) (pa_cons (pv 3) pa_nil)))) pa_nil))) pa_nil)))))
      (pss_one (ps_ret (pv 4))))), ?_⟩
  walk_at "rd"
  refine ⟨Nat.zero_le _, fun o no => ?_⟩
  have hop : o ≠ p := hp.ne no
  have g0 := Go.of_same hp (same_upd (o := .lst []) no)
  refine fr_rng1 ?_
  walk_at "rd"
  refine ⟨_, rfl, _, rfl, _, _, rfl, rfl, p, _, rfl, g0.spr, by omega, small300 (by omega) (by omega), fun H1 n g1 n0 nm => ?_⟩
  refine ⟨n, rfl, by omega, by omega, ForGo.range
    (fun i σ H2 => ∃ y, σ = [some (.ref p), some (.int most), some (.int wide), some (.int times), some (.ref o), y] ∧ Go p H H2 ∧ ∃ ps xs, H2 o = some (.lst xs) ∧ Paired (PcT p H2) xs ps ∧ ps.length = i ∧ ∀ x ∈ ps, OkP wide times x)
    ⟨none, rfl, g0.trans g1, [], [], g1.keep _ _ hop upd_same, .nil, rfl, fun x hx => by cases hx⟩ ?_ ?_⟩
  · rintro i σ H2 hi ⟨y, rfl, g2, ps, xs, ho, hps, hl, hok⟩
    walk_at "rd"
    refine ⟨_, rfl, .inl ⟨rfl, _, SqL.of ho⟩, ?_⟩
    refine ⟨_, rfl, _, rfl, p, wide, rfl, g2.spr, hw, by omega, fun H3 x g3 hx hxl hxp => ?_⟩
    refine ⟨_, rfl, _, rfl, p, times, rfl, g3.spr, by omega, ht2, fun H4 r g4 r0 rl => ?_⟩
    obtain ⟨k, rfl⟩ := Int.eq_ofNat_of_zero_le r0
    have g34 := g3.trans g4
    have ho4 := g34.keep _ _ hop ho
    refine ⟨_, _, rfl, rfl, by show 2 ≤ sizeLine; decide, fun t nt => ?_⟩
    have hot : o ≠ t := ne_of_none ho4 nt
    have g5 := Go.of_same g4.spr (same_upd (o := .tup [.str (tx x), .int (1 + (k : Int))]) nt)
    have ho5 := g5.keep _ _ hop ho4
    have hxl2 := prd_len hps
    refine ⟨o, xs, _, rfl, rfl, ho5, ?_, _, rfl, go_mut ((g2.trans g34).trans g5) no hop, ps ++ [(x, 1 + k)], _, upd_same, ?_, ?_, ?_⟩
    · rw [hxl2, hl]
      exact Nat.lt_of_lt_of_le (show i < 100000 by omega) (by decide)
    · refine prd_snoc (prd_same (fun _ _ z => PcT.upd ho5 (PcT.go (g34.trans g5) z)) hps) (PcT.upd ho5 ⟨t, rfl, g4.spr.ne nt, ?_⟩)
      rw [upd_same]
      show some (HO.tup [.str (tx x), .int (1 + (k : Int))]) = some (HO.tup [.str (tx x), .int ((1 + k : Nat) : Int)])
      rw [Int.natCast_add]
      rfl
    · rw [List.length_append, hl]
      rfl
    · intro y hy
      rcases List.mem_append.mp hy with hy | hy
      · exact hok y hy
      · have : y = (x, 1 + k) := by simpa using hy
        subst this
        exact ⟨hxp, hx, hxl, by show 1 ≤ 1 + k; omega, by show ((1 + k : Nat) : Int) ≤ times; omega⟩
  · rintro σ H2 ⟨y, rfl, g2, ps, xs, ho, hps, hl, hok⟩
    walk_at "rd"
    exact ⟨_, rfl, q _ _ _ g2 no ⟨hop, xs, ho, hps⟩ (by omega) hok⟩

theorem spell_alpha {ps : Pcs} (h : Good ps) {c : Nat} (hc : c ∈ spell ps) : c ∈ alpha := by
  unfold spell at hc
  obtain ⟨l, hl, hcl⟩ := List.mem_flatten.mp hc
  obtain ⟨x, hx, rfl⟩ := List.mem_map.mp hl
  have := plain_mem (h.ok x hx).1.1 (rep_mem hcl)
  rw [List.contains_iff_mem] at this
  exact this
theorem ones_flat : ∀ (ws : List Nat), (ws.map fun c => [c]).flatten = ws
  | [] => rfl
  | c :: ws => by rw [List.map_cons, List.flatten_cons, ones_flat ws]; rfl
theorem ones_len (ws : List Nat) : (((ws.map fun c => [c]).map tx).map (·.length)).sum = ws.length := by
  have e1 : (((ws.map fun c => [c]).map tx).map (·.length)) = (ws.map fun c => [c]).map (·.length) := by rw [List.map_map]; exact List.map_congr_left fun x _ => tx_len x
  rw [e1, sum_le_len, ones_flat]
/-! ## the law's own letter -/
def spLawLetter : Sp := fun vs H Q _ => ∃ (p a : Addr) (ps : Pcs) (place c : Nat), vs = [.ref a, .int (place : Int)] ∧ TxtL p H a ps ∧ GoodW ps ∧ (spell ps)[place]? = some c ∧ Q (.str (tx [c])) H

/-! ## what is refused -/
def spChk (f : Dt → Bool) (D : Addr) (K : PySem.W.Frag) : Sp := fun vs H Q E => ∃ v d, vs = [v] ∧ At K H v d ∧ ∀ H', Same H H' → (f d = true → Q .non H') ∧ (f d = false → E (.ref D) none H')
theorem okx_check_text (T : Txt K mg) : FnOk P w K mg base (L2.CX P w) 6 T.f_check_text.f T.f_check_text.fd ["thing"] (spChk isText T.x_NoText.C K) := by
  refine T.f_check_text.F.okX sc_check_text (fun vs H Q E h => ?_) (fun cdv A outer s H vs Q E hr h => ?_)
  · obtain ⟨v, d, rfl, _⟩ := h
    rfl
  obtain ⟨v, d, rfl, hv, q⟩ := h
  refine ⟨_, (pss_one (ps_if (pt_not (pt_val (pe_call (ok_is_text T) (hr.mono (by decide)) (by rfl) T.f_is_text.g T.f_is_text.F.kp T.f_is_text.b .nil pass0 (pa_cons (pv 0) pa_nil)))) (pss_one (ps_raise rfl (takes_of rfl rfl rfl rfl) (pmk_own PySem.F.excBase_ValueError T.r_NoText.q T.x_NoText.g T.x_NoText.k T.r_NoText.rz rfl))) pss_nil)), ?_⟩
  walk_at "rd"
  refine ⟨v, rfl, v, d, rfl, hv, fun H1 s1 => ⟨_, rfl, ?_⟩⟩
  cases ht : isText d with
  | true => exact iteF ((q _ s1).1 ht)
  | false => exact iteT ((q _ s1).2 ht)
theorem okx_check_letter (T : Txt K mg) : FnOk P w K mg base (L2.CX P w) 3 T.f_check_letter.f T.f_check_letter.fd ["thing"] (spChk isLetter T.x_NoLetter.C K) := by
  refine T.f_check_letter.F.okX sc_check_letter (fun vs H Q E h => ?_) (fun cdv A outer s H vs Q E hr h => ?_)
  · obtain ⟨v, d, rfl, _⟩ := h
    rfl
  obtain ⟨v, d, rfl, hv, q⟩ := h
  refine ⟨_, (pss_one (ps_if (pt_not (pt_val (pe_call (ok_is_letter T) (hr.mono (by decide)) (by rfl) T.f_is_letter.g T.f_is_letter.F.kp T.f_is_letter.b .nil pass0 (pa_cons (pv 0) pa_nil)))) (pss_one (ps_raise rfl (takes_of rfl rfl rfl rfl) (pmk_own PySem.F.excBase_ValueError T.r_NoLetter.q T.x_NoLetter.g T.x_NoLetter.k T.r_NoLetter.rz rfl))) pss_nil)), ?_⟩
  walk_at "rd"
  refine ⟨v, rfl, v, d, rfl, hv, _, rfl, ?_⟩
  cases ht : isLetter d with
  | true => exact iteF ((q _ (Same.refl _)).1 ht)
  | false => exact iteT ((q _ (Same.refl _)).2 ht)
def spBadLetter (D1 D2 : Addr) (K : PySem.W.Frag) : Sp := fun vs H _ E => ∃ v d u e, vs = [v, u] ∧ At K H v d ∧ At K H u e ∧
  ((isText d = false ∧ ∀ H', Same H H' → E (.ref D1) none H') ∨ (isText d = true ∧ isWithin e 0 ((size (pcs d) : Int) - 1) = false ∧ ∀ H', Same H H' → E (.ref D2) none H'))
theorem bad_letter (T : Txt K mg) : FnOk P w K mg base (L2.CX P w) 7 T.f_letter.f T.f_letter.fd ["text", "place"] (spBadLetter T.x_NoText.C T.x_NoPlace.C K) := by
  refine T.f_letter.F.okX sc_letter (fun vs H Q E h => ?_) (fun cdv A outer s H vs Q E hr h => ?_)
  · obtain ⟨v, d, u, e, rfl, _⟩ := h
    rfl
  obtain ⟨v, d, u, e, rfl, hv, hu, q⟩ := h
  refine ⟨_, (pss_cons (ps_expr (pe_call (okx_check_text T) (hr.mono (by decide)) (by rfl) T.f_check_text.g T.f_check_text.F.kp T.f_check_text.b .nil (passes_call (takes_of rfl rfl rfl rfl) fun _ _ _ _ h => h) (pa_cons (pv 0) pa_nil)))
      (pss_cons (ps_set (i := 2) sc_letter.nd rfl (.inl rfl) (pe_call (ok_spans_of T) (hr.mono (by decide)) (by rfl) T.f_spans_of.g T.f_spans_of.F.kp T.f_spans_of.b .nil pass0 (pa_cons (pv 0) pa_nil)))
      (pss_cons (ps_if (pt_not (pt_val (pe_call (ok_is_within T) (hr.mono (by decide)) (by rfl) T.f_is_within.g T.f_is_within.F.kp T.f_is_within.b .nil pass0 (pa_cons (pv 1) (pa_cons pe_int (pa_cons (pe_op op_sub (pe_call (ok_end_of T) (hr.mono (by decide)) (by rfl) T.f_end_of.g T.f_end_of.F.kp T.f_end_of.b .nil pass0 (pa_cons (pv 2) pa_nil)) pe_int) pa_nil)))))) (pss_one (ps_raise rfl (takes_of rfl rfl rfl rfl) (pmk_own PySem.F.excBase_ValueError T.r_NoPlace.q T.x_NoPlace.g T.x_NoPlace.k T.r_NoPlace.rz rfl))) pss_nil)
      (pss_one (ps_ret (pe_call (ok_look T) (hr.mono (by decide)) (by rfl) T.f_look.g T.f_look.F.kp T.f_look.b .nil pass0 (pa_cons (pv 2) (pa_cons (pv 1) (pa_cons pe_int pa_nil))))))))), ?_⟩
  walk_at "rd"
  refine ⟨v, rfl, v, d, rfl, hv, fun H1 s1 => ?_⟩
  rcases q with ⟨q1, q⟩ | ⟨ht, q1, q⟩
  · exact ⟨fun ht => (by rw [q1] at ht; cases ht), fun _ => q _ s1⟩
  refine ⟨fun _ => ?_, fun z => (by rw [ht] at z; cases z)⟩
  refine ⟨v, rfl, v, pcs d, rfl, (textAt_of hv ht).same s1, Good.of ht, fun H2 a s2 hs => ?_⟩
  refine ⟨_, rfl, _, rfl, a, pcs d, rfl, hs, _, _, rfl, rfl, _, e, 0, _, rfl, At.same (s1.trans s2) _ _ hu, _, rfl, ?_⟩
  rw [q1]
  exact iteT (q _ (s1.trans s2))
theorem okx_letter (T : Txt K mg) : FnOk P w K mg base (L2.CX P w) 7 T.f_letter.f T.f_letter.fd ["text", "place"] (fun vs H Q E => spLetter K vs H Q E ∨ spBadLetter T.x_NoText.C T.x_NoPlace.C K vs H Q E) := FnOk.or (FnOk.x (ok_letter T)) (bad_letter T)
def spBadLooks (D1 D2 D3 : Addr) (K : PySem.W.Frag) : Sp := fun vs H _ E => ∃ v d u e o r, vs = [v, u, o] ∧ At K H v d ∧ At K H u e ∧ At K H o r ∧
  ((isText d = false ∧ ∀ H', Same H H' → E (.ref D1) none H') ∨ (isText d = true ∧ isWithin e 0 (size (pcs d) : Int) = false ∧ ∀ H', Same H H' → E (.ref D2) none H') ∨
    (isText d = true ∧ isWithin e 0 (size (pcs d) : Int) = true ∧ isWithin r 0 2000 = false ∧ ∀ H', Same H H' → E (.ref D3) none H'))
theorem bad_looks (T : Txt K mg) : FnOk P w K mg base (L2.CX P w) 7 T.f_looks.f T.f_looks.fd ["text", "place", "many"] (spBadLooks T.x_NoText.C T.x_NoPlace.C T.x_NoNumber.C K) := by
  refine T.f_looks.F.okX sc_looks (fun vs H Q E h => ?_) (fun cdv A outer s H vs Q E hr h => ?_)
  · obtain ⟨v, d, u, e, o, r, rfl, _⟩ := h
    rfl
  obtain ⟨v, d, u, e, o, r, rfl, hv, hu, ho, q⟩ := h
  refine ⟨_, (pss_cons (ps_expr (pe_call (okx_check_text T) (hr.mono (by decide)) (by rfl) T.f_check_text.g T.f_check_text.F.kp T.f_check_text.b .nil (passes_call (takes_of rfl rfl rfl rfl) fun _ _ _ _ h => h) (pa_cons (pv 0) pa_nil)))
      (pss_cons (ps_set (i := 3) sc_looks.nd rfl (.inl rfl) (pe_call (ok_spans_of T) (hr.mono (by decide)) (by rfl) T.f_spans_of.g T.f_spans_of.F.kp T.f_spans_of.b .nil pass0 (pa_cons (pv 0) pa_nil)))
      (pss_cons (ps_if (pt_not (pt_val (pe_call (ok_is_within T) (hr.mono (by decide)) (by rfl) T.f_is_within.g T.f_is_within.F.kp T.f_is_within.b .nil pass0 (pa_cons (pv 1) (pa_cons pe_int (pa_cons (pe_call (ok_end_of T) (hr.mono (by decide)) (by rfl) T.f_end_of.g T.f_end_of.F.kp T.f_end_of.b .nil pass0 (pa_cons (pv 3) pa_nil)) pa_nil)))))) (pss_one (ps_raise rfl (takes_of rfl rfl rfl rfl) (pmk_own PySem.F.excBase_ValueError T.r_NoPlace.q T.x_NoPlace.g T.x_NoPlace.k T.r_NoPlace.rz rfl))) pss_nil)
      (pss_cons (ps_if (pt_not (pt_val (pe_call (ok_is_within T) (hr.mono (by decide)) (by rfl) T.f_is_within.g T.f_is_within.F.kp T.f_is_within.b .nil pass0 (pa_cons (pv 2) (pa_cons pe_int (pa_cons (pe_c_LONGEST_LOOK T) pa_nil)))))) (pss_one (ps_raise rfl (takes_of rfl rfl rfl rfl) (pmk_own PySem.F.excBase_ValueError T.r_NoNumber.q T.x_NoNumber.g T.x_NoNumber.k T.r_NoNumber.rz rfl))) pss_nil)
      (pss_one (ps_ret (pe_call (ok_look T) (hr.mono (by decide)) (by rfl) T.f_look.g T.f_look.F.kp T.f_look.b .nil pass0 (pa_cons (pv 3) (pa_cons (pv 1) (pa_cons (pv 2) pa_nil)))))))))), ?_⟩
  walk_at "rd"
  refine ⟨v, rfl, v, d, rfl, hv, fun H1 s1 => ?_⟩
  have fin : ∀ {X Y : Prop}, isText d = true → (∀ H2 a, Same H1 H2 → SpansAt H2 a (spansOf 0 (pcs d)) → X) → ((isText d = true → X) ∧ (isText d = false → Y)) → (isText d = true → X) ∧ (isText d = false → Y) := fun _ _ h => h
  rcases q with ⟨q1, q⟩ | ⟨ht, q1, q⟩ | ⟨ht, q1, q2, q⟩
  · exact ⟨fun ht => (by rw [q1] at ht; cases ht), fun _ => q _ s1⟩
  · refine ⟨fun _ => ?_, fun z => (by rw [ht] at z; cases z)⟩
    refine ⟨v, rfl, v, pcs d, rfl, (textAt_of hv ht).same s1, Good.of ht, fun H2 a s2 hs => ?_⟩
    refine ⟨_, rfl, _, rfl, a, pcs d, rfl, hs, _, e, 0, _, rfl, At.same (s1.trans s2) _ _ hu, _, rfl, ?_⟩
    rw [q1]
    exact iteT (q _ (s1.trans s2))
  · refine ⟨fun _ => ?_, fun z => (by rw [ht] at z; cases z)⟩
    refine ⟨v, rfl, v, pcs d, rfl, (textAt_of hv ht).same s1, Good.of ht, fun H2 a s2 hs => ?_⟩
    refine ⟨_, rfl, _, rfl, a, pcs d, rfl, hs, _, e, 0, _, rfl, At.same (s1.trans s2) _ _ hu, _, rfl, ?_⟩
    rw [q1]
    refine iteF ⟨_, rfl, _, r, 0, _, rfl, At.same (s1.trans s2) _ _ ho, _, rfl, ?_⟩
    rw [q2]
    exact iteT (q _ (s1.trans s2))
theorem okx_looks (T : Txt K mg) : FnOk P w K mg base (L2.CX P w) 7 T.f_looks.f T.f_looks.fd ["text", "place", "many"] (fun vs H Q E => spLooks K vs H Q E ∨ spBadLooks T.x_NoText.C T.x_NoPlace.C T.x_NoNumber.C K vs H Q E) := FnOk.or (FnOk.x (ok_looks T)) (bad_looks T)
def spBadCount (D1 D2 D3 : Addr) (K : PySem.W.Frag) : Sp := fun vs H _ E => ∃ v d u e o r, vs = [v, u, o] ∧ At K H v d ∧ At K H u e ∧ At K H o r ∧
  ((isText d = false ∧ ∀ H', Same H H' → E (.ref D1) none H') ∨ (isText d = true ∧ isLetter e = false ∧ ∀ H', Same H H' → E (.ref D2) none H') ∨
    (isText d = true ∧ isLetter e = true ∧ isWithin r 0 (size (pcs d) : Int) = false ∧ ∀ H', Same H H' → E (.ref D3) none H'))
theorem bad_count (T : Txt K mg) : FnOk P w K mg base (L2.CX P w) 7 T.f_count.f T.f_count.fd ["text", "sign", "many"] (spBadCount T.x_NoText.C T.x_NoLetter.C T.x_NoNumber.C K) := by
  refine T.f_count.F.okX sc_count (fun vs H Q E h => ?_) (fun cdv A outer s H vs Q E hr h => ?_)
  · obtain ⟨v, d, u, e, o, r, rfl, _⟩ := h
    rfl
  obtain ⟨v, d, u, e, o, r, rfl, hv, hu, ho, q⟩ := h
  refine ⟨_, (pss_cons (ps_expr (pe_call (okx_check_text T) (hr.mono (by decide)) (by rfl) T.f_check_text.g T.f_check_text.F.kp T.f_check_text.b .nil (passes_call (takes_of rfl rfl rfl rfl) fun _ _ _ _ h => h) (pa_cons (pv 0) pa_nil)))
      (pss_cons (ps_expr (pe_call (okx_check_letter T) (hr.mono (by decide)) (by rfl) T.f_check_letter.g T.f_check_letter.F.kp T.f_check_letter.b .nil (passes_call (takes_of rfl rfl rfl rfl) fun _ _ _ _ h => h) (pa_cons (pv 1) pa_nil)))
      (pss_cons (ps_set (i := 3) sc_count.nd rfl (.inl rfl) (pe_call (ok_spans_of T) (hr.mono (by decide)) (by rfl) T.f_spans_of.g T.f_spans_of.F.kp T.f_spans_of.b .nil pass0 (pa_cons (pv 0) pa_nil)))
      (pss_cons (ps_if (pt_not (pt_val (pe_call (ok_is_within T) (hr.mono (by decide)) (by rfl) T.f_is_within.g T.f_is_within.F.kp T.f_is_within.b .nil pass0 (pa_cons (pv 2) (pa_cons pe_int (pa_cons (pe_call (ok_end_of T) (hr.mono (by decide)) (by rfl) T.f_end_of.g T.f_end_of.F.kp T.f_end_of.b .nil pass0 (pa_cons (pv 3) pa_nil)) pa_nil)))))) (pss_one (ps_raise rfl (takes_of rfl rfl rfl rfl) (pmk_own PySem.F.excBase_ValueError T.r_NoNumber.q T.x_NoNumber.g T.x_NoNumber.k T.r_NoNumber.rz rfl))) pss_nil)
      (pss_cons (ps_set (i := 4) sc_count.nd rfl (.inl rfl) pe_int)
      (pss_cons (ps_for (passes_of rfl) rfl (pi_list (pv 3)) (pg_tup rfl (pgs_cons (pg_name (i := 5) sc_count.nd rfl (.inl rfl)) (pgs_cons (pg_name (i := 6) sc_count.nd rfl (.inl rfl)) (pgs_cons (pg_name (i := 7) sc_count.nd rfl (.inl rfl)) pgs_nil))))
        (pss_one (ps_if (pt_cmpR op_lt (pv 5) (pv 2) (nomark _)) (pss_one (ps_aug (i := 4) sc_count.nd rfl (.inl rfl) (pe_call (ok_among T) (hr.mono (by decide)) (by rfl) T.f_among.g T.f_among.F.kp T.f_among.b .nil pass0 (pa_cons (pv 7) (pa_cons (pv 1) (pa_cons (pe_op op_sub (pe_callB (call_min2 rfl) (by rfl) T.b_min (by decide +kernel) (pa_cons (pv 6) (pa_cons (pv 2) pa_nil))) (pv 5)) pa_nil)))) ip_add)) pss_nil)))
      (pss_one (ps_ret (pv 4))))))))), ?_⟩
  walk_at "rd"
  refine ⟨v, rfl, v, d, rfl, hv, fun H1 s1 => ?_⟩
  rcases q with ⟨q1, q⟩ | ⟨ht, q1, q⟩ | ⟨ht, q1, q2, q⟩
  · exact ⟨fun ht => (by rw [q1] at ht; cases ht), fun _ => q _ s1⟩
  · refine ⟨fun _ => ?_, fun z => (by rw [ht] at z; cases z)⟩
    exact ⟨u, rfl, u, e, rfl, At.same s1 _ _ hu, fun H2 s2 => ⟨fun z => (by rw [q1] at z; cases z), fun _ => q _ (s1.trans s2)⟩⟩
  · refine ⟨fun _ => ?_, fun z => (by rw [ht] at z; cases z)⟩
    refine ⟨u, rfl, u, e, rfl, At.same s1 _ _ hu, fun H2 s2 => ⟨fun _ => ?_, fun z => (by rw [q1] at z; cases z)⟩⟩
    have s12 := s1.trans s2
    refine ⟨v, rfl, v, pcs d, rfl, (textAt_of hv ht).same s12, Good.of ht, fun H3 a s3 hs => ?_⟩
    refine ⟨_, rfl, _, rfl, a, pcs d, rfl, hs, _, r, 0, _, rfl, At.same (s12.trans s3) _ _ ho, _, rfl, ?_⟩
    rw [q2]
    exact iteT (q _ (s12.trans s3))
theorem okx_count (T : Txt K mg) : FnOk P w K mg base (L2.CX P w) 7 T.f_count.f T.f_count.fd ["text", "sign", "many"] (fun vs H Q E => spCount K vs H Q E ∨ spBadCount T.x_NoText.C T.x_NoLetter.C T.x_NoNumber.C K vs H Q E) := FnOk.or (FnOk.x (ok_count T)) (bad_count T)
def spBadNth (D1 D2 D3 : Addr) (K : PySem.W.Frag) : Sp := fun vs H _ E => ∃ v d u e o r, vs = [v, u, o] ∧ At K H v d ∧ At K H u e ∧ At K H o r ∧
  ((isText d = false ∧ ∀ H', Same H H' → E (.ref D1) none H') ∨ (isText d = true ∧ isLetter e = false ∧ ∀ H', Same H H' → E (.ref D2) none H') ∨
    (isText d = true ∧ isLetter e = true ∧ isWhole r 0 = false ∧ ∀ H', Same H H' → E (.ref D3) none H'))
theorem bad_nth (T : Txt K mg) : FnOk P w K mg base (L2.CX P w) 7 T.f_nth.f T.f_nth.fd ["text", "sign", "number"] (spBadNth T.x_NoText.C T.x_NoLetter.C T.x_NoNumber.C K) := by
  refine T.f_nth.F.okX sc_nth (fun vs H Q E h => ?_) (fun cdv A outer s H vs Q E hr h => ?_)
  · obtain ⟨v, d, u, e, o, r, rfl, _⟩ := h
    rfl
  obtain ⟨v, d, u, e, o, r, rfl, hv, hu, ho, q⟩ := h
  refine ⟨_, (pss_cons (ps_expr (pe_call (okx_check_text T) (hr.mono (by decide)) (by rfl) T.f_check_text.g T.f_check_text.F.kp T.f_check_text.b .nil (passes_call (takes_of rfl rfl rfl rfl) fun _ _ _ _ h => h) (pa_cons (pv 0) pa_nil)))
      (pss_cons (ps_expr (pe_call (okx_check_letter T) (hr.mono (by decide)) (by rfl) T.f_check_letter.g T.f_check_letter.F.kp T.f_check_letter.b .nil (passes_call (takes_of rfl rfl rfl rfl) fun _ _ _ _ h => h) (pa_cons (pv 1) pa_nil)))
      (pss_cons (ps_if (pt_not (pt_val (pe_call (ok_is_whole T) (hr.mono (by decide)) (by rfl) T.f_is_whole.g T.f_is_whole.F.kp T.f_is_whole.b .nil pass0 (pa_cons (pv 2) (pa_cons pe_int pa_nil))))) (pss_one (ps_raise rfl (takes_of rfl rfl rfl rfl) (pmk_own PySem.F.excBase_ValueError T.r_NoNumber.q T.x_NoNumber.g T.x_NoNumber.k T.r_NoNumber.rz rfl))) pss_nil)
      (pss_cons (ps_set (i := 3) sc_nth.nd rfl (.inl rfl) pe_int)
      (pss_cons (ps_for (passes_of rfl) rfl (pi_list (pe_call (ok_spans_of T) (hr.mono (by decide)) (by rfl) T.f_spans_of.g T.f_spans_of.F.kp T.f_spans_of.b .nil pass0 (pa_cons (pv 0) pa_nil))) (pg_tup rfl (pgs_cons (pg_name (i := 4) sc_nth.nd rfl (.inl rfl)) (pgs_cons (pg_name (i := 5) sc_nth.nd rfl (.inl rfl)) (pgs_cons (pg_name (i := 6) sc_nth.nd rfl (.inl rfl)) pgs_nil))))
        (pss_cons (ps_set (i := 7) sc_nth.nd rfl (.inl rfl) (pe_call (ok_among T) (hr.mono (by decide)) (by rfl) T.f_among.g T.f_among.F.kp T.f_among.b .nil pass0 (pa_cons (pv 6) (pa_cons (pv 1) (pa_cons (pe_op op_sub (pv 5) (pv 4)) pa_nil)))))
      (pss_cons (ps_if (pt_cmpR op_lt (pv 2) (pe_op op_add (pv 3) (pv 7)) (nomark _)) (pss_one (ps_ret (pe_op op_add (pv 4) (pe_call (ok_nth_again T) (hr.mono (by decide)) (by rfl) T.f_nth_again.g T.f_nth_again.F.kp T.f_nth_again.b .nil pass0 (pa_cons (pv 6) (pa_cons (pv 1) (pa_cons (pe_op op_sub (pv 2) (pv 3)) pa_nil))))))) pss_nil)
      (pss_one (ps_aug (i := 3) sc_nth.nd rfl (.inl rfl) (pv 7) ip_add)))))
      (pss_one (ps_ret pe_non))))))), ?_⟩
  walk_at "rd"
  refine ⟨v, rfl, v, d, rfl, hv, fun H1 s1 => ?_⟩
  rcases q with ⟨q1, q⟩ | ⟨ht, q1, q⟩ | ⟨ht, q1, q2, q⟩
  · exact ⟨fun ht => (by rw [q1] at ht; cases ht), fun _ => q _ s1⟩
  · refine ⟨fun _ => ?_, fun z => (by rw [ht] at z; cases z)⟩
    exact ⟨u, rfl, u, e, rfl, At.same s1 _ _ hu, fun H2 s2 => ⟨fun z => (by rw [q1] at z; cases z), fun _ => q _ (s1.trans s2)⟩⟩
  · refine ⟨fun _ => ?_, fun z => (by rw [ht] at z; cases z)⟩
    refine ⟨u, rfl, u, e, rfl, At.same s1 _ _ hu, fun H2 s2 => ⟨fun _ => ?_, fun z => (by rw [q1] at z; cases z)⟩⟩
    refine ⟨_, rfl, o, r, 0, rfl, At.same (s1.trans s2) _ _ ho, _, rfl, ?_⟩
    rw [q2]
    exact iteT (q _ (s1.trans s2))
theorem okx_nth (T : Txt K mg) : FnOk P w K mg base (L2.CX P w) 7 T.f_nth.f T.f_nth.fd ["text", "sign", "number"] (fun vs H Q E => spNth K vs H Q E ∨ spBadNth T.x_NoText.C T.x_NoLetter.C T.x_NoNumber.C K vs H Q E) := FnOk.or (FnOk.x (ok_nth T)) (bad_nth T)
def spBadUnlike (D1 : Addr) (K : PySem.W.Frag) : Sp := fun vs H _ E => ∃ v d u e, vs = [v, u] ∧ At K H v d ∧ At K H u e ∧ (isText d = false ∨ isText e = false) ∧ ∀ H', Same H H' → E (.ref D1) none H'
theorem bad_first_unlike (T : Txt K mg) : FnOk P w K mg base (L2.CX P w) 7 T.f_first_unlike.f T.f_first_unlike.fd ["text", "other"] (spBadUnlike T.x_NoText.C K) := by
  refine T.f_first_unlike.F.okX sc_first_unlike (fun vs H Q E h => ?_) (fun cdv A outer s H vs Q E hr h => ?_)
  · obtain ⟨v, d, u, e, rfl, _⟩ := h
    rfl
  obtain ⟨v, d, u, e, rfl, hv, hu, q1, q⟩ := h
  refine ⟨_, (pss_cons (ps_expr (pe_call (okx_check_text T) (hr.mono (by decide)) (by rfl) T.f_check_text.g T.f_check_text.F.kp T.f_check_text.b .nil (passes_call (takes_of rfl rfl rfl rfl) fun _ _ _ _ h => h) (pa_cons (pv 0) pa_nil)))
      (pss_cons (ps_expr (pe_call (okx_check_text T) (hr.mono (by decide)) (by rfl) T.f_check_text.g T.f_check_text.F.kp T.f_check_text.b .nil (passes_call (takes_of rfl rfl rfl rfl) fun _ _ _ _ h => h) (pa_cons (pv 1) pa_nil)))
      (pss_cons (ps_set (i := 2) sc_first_unlike.nd rfl (.inl rfl) (pe_call (ok_spans_of T) (hr.mono (by decide)) (by rfl) T.f_spans_of.g T.f_spans_of.F.kp T.f_spans_of.b .nil pass0 (pa_cons (pv 0) pa_nil)))
      (pss_cons (ps_set (i := 3) sc_first_unlike.nd rfl (.inl rfl) (pe_call (ok_spans_of T) (hr.mono (by decide)) (by rfl) T.f_spans_of.g T.f_spans_of.F.kp T.f_spans_of.b .nil pass0 (pa_cons (pv 1) pa_nil)))
      (pss_cons (ps_set (i := 4) sc_first_unlike.nd rfl (.inl rfl) pe_int)
      (pss_cons (ps_for (passes_of rfl) rfl (pi_list (pe_callB cr_sortedI (by rfl) T.b_sorted (by decide +kernel) (pa_cons (pe_lc (own := [("span", 9)]) rfl sc_first_unlike.nd (pi_list (pe_op op_cat (pv 2) (pv 3))) (blkOk_by (own := [("span", 9)]) (N := N_first_unlike) (sc := defScope s_first_unlike) (by decide +kernel)) (fun _ _ _ _ _ => (pg_name (i := 9) sc_first_unlike.nd rfl (.inl rfl))) (fun _ _ _ _ _ => pts_nil) (fun _ _ _ _ _ => (pe_ix (ix_seqK K) (pv 9) pe_int (fun _ _ => rfl)))) pa_nil))) (pg_name (i := 5) sc_first_unlike.nd rfl (.inl rfl))
        (pss_cons (ps_set (i := 6) sc_first_unlike.nd rfl (.inl rfl) (pe_callB (call_min2 rfl) (by rfl) T.b_min (by decide +kernel) (pa_cons (pe_op op_sub (pv 5) (pv 4)) (pa_cons (pe_c_TWO_WORDS T) pa_nil))))
      (pss_cons (ps_set (i := 7) sc_first_unlike.nd rfl (.inl rfl) (pe_call (ok_look T) (hr.mono (by decide)) (by rfl) T.f_look.g T.f_look.F.kp T.f_look.b .nil pass0 (pa_cons (pv 2) (pa_cons (pv 4) (pa_cons (pv 6) pa_nil)))))
      (pss_cons (ps_set (i := 8) sc_first_unlike.nd rfl (.inl rfl) (pe_call (ok_look T) (hr.mono (by decide)) (by rfl) T.f_look.g T.f_look.F.kp T.f_look.b .nil pass0 (pa_cons (pv 3) (pa_cons (pv 4) (pa_cons (pv 6) pa_nil)))))
      (pss_cons (ps_if (pt_cmpR op_ne (pv 7) (pv 8) (nomark _)) (pss_one (ps_ret (pe_op op_add (pv 4) (pe_call (ok_split_at T) (hr.mono (by decide)) (by rfl) T.f_split_at.g T.f_split_at.F.kp T.f_split_at.b .nil pass0 (pa_cons (pv 7) (pa_cons (pv 8) pa_nil)))))) pss_nil)
      (pss_one (ps_set (i := 4) sc_first_unlike.nd rfl (.inl rfl) (pv 5))))))))
      (pss_one (ps_ret pe_non)))))))), ?_⟩
  walk_at "rd"
  refine ⟨v, rfl, v, d, rfl, hv, fun H1 s1 => ⟨fun ht => ?_, fun _ => q _ s1⟩⟩
  refine ⟨u, rfl, u, e, rfl, At.same s1 _ _ hu, fun H2 s2 => ⟨fun ht2 => ?_, fun _ => q _ (s1.trans s2)⟩⟩
  rcases q1 with q1 | q1
  · rw [q1] at ht
    cases ht
  · rw [q1] at ht2
    cases ht2
theorem okx_first_unlike (T : Txt K mg) : FnOk P w K mg base (L2.CX P w) 7 T.f_first_unlike.f T.f_first_unlike.fd ["text", "other"] (fun vs H Q E => spFirstUnlike K vs H Q E ∨ spBadUnlike T.x_NoText.C K vs H Q E) := FnOk.or (FnOk.x (ok_first_unlike T)) (bad_first_unlike T)

/-! ## which error it was -/
def whichOf (T : Txt K mg) (D : Addr) (n : Str) : Prop := (D = T.x_NoText.C ∧ n = "NoText") ∨ (D = T.x_NoPlace.C ∧ n = "NoPlace") ∨ (D = T.x_NoNumber.C ∧ n = "NoNumber") ∨ (D = T.x_NoLetter.C ∧ n = "NoLetter")
def spWhich (T : Txt K mg) : Sp := fun vs H Q _ => ∃ (a D : Addr) (n : Str), vs = [.ref a] ∧ H a = some (ExB (.ref D) none a) ∧ whichOf T D n ∧ ∀ H', Same H H' → Q (.str n) H'
theorem ok__law_which (T : Txt K mg) : FnOk P w K mg base CX0 1 T.f__law_which.f T.f__law_which.fd ["caught"] (spWhich T) := by
  refine T.f__law_which.F.ok sc__law_which (fun vs H Q E h => ?_) (fun cdv A outer s H vs Q E hr h => ?_)
  · obtain ⟨a, D, n, rfl, _⟩ := h
    rfl
  obtain ⟨a, D, n, rfl, ha, hD, q⟩ := h
  refine ⟨_, (pss_cons (ps_if (PW.pt (pw_or (pt_not (pt_val (pe_callB call_isB (by rfl) T.b_isinstance (by decide +kernel) (pa_cons (pv 0) (pa_cons (pe_cls T.x_KeysError.g) pa_nil))))) (pw_or1 (pt_not (pt_val (pe_callB call_isB (by rfl) T.b_isinstance (by decide +kernel) (pa_cons (pv 0) (pa_cons (pe_bltn (v := .ty "ValueError") (by rfl) T.b_ValueError (by decide +kernel) rfl) pa_nil)))))))) (pss_one (ps_ret pe_str)) pss_nil)
      (pss_cons (ps_set (i := 1) sc__law_which.nd rfl (.inl rfl) (pe_lst (pa_cons (pe_callB call_isB (by rfl) T.b_isinstance (by decide +kernel) (pa_cons (pv 0) (pa_cons (pe_cls T.x_NoText.g) pa_nil))) (pa_cons (pe_callB call_isB (by rfl) T.b_isinstance (by decide +kernel) (pa_cons (pv 0) (pa_cons (pe_cls T.x_NoPlace.g) pa_nil))) (pa_cons (pe_callB call_isB (by rfl) T.b_isinstance (by decide +kernel) (pa_cons (pv 0) (pa_cons (pe_cls T.x_NoNumber.g) pa_nil))) pa_nil)))))
      (pss_cons (ps_set (i := 1) sc__law_which.nd rfl (.inl rfl) (pe_op op_cat (pv 1) (pe_lst (pa_cons (pe_callB call_isB (by rfl) T.b_isinstance (by decide +kernel) (pa_cons (pv 0) (pa_cons (pe_cls T.x_NoLetter.g) pa_nil))) (pa_cons (pe_callB call_isB (by rfl) T.b_isinstance (by decide +kernel) (pa_cons (pv 0) (pa_cons (pe_cls T.x_NoHand.g) pa_nil))) (pa_cons (pe_callB call_isB (by rfl) T.b_isinstance (by decide +kernel) (pa_cons (pv 0) (pa_cons (pe_cls T.x_NoSheet.g) pa_nil))) pa_nil))))))
      (pss_cons (ps_set (i := 1) sc__law_which.nd rfl (.inl rfl) (pe_op op_cat (pv 1) (pe_lst (pa_cons (pe_callB call_isB (by rfl) T.b_isinstance (by decide +kernel) (pa_cons (pv 0) (pa_cons (pe_cls T.x_NoTimes.g) pa_nil))) (pa_cons (pe_callB call_isB (by rfl) T.b_isinstance (by decide +kernel) (pa_cons (pv 0) (pa_cons (pe_cls T.x_NoStand.g) pa_nil))) (pa_cons (pe_callB call_isB (by rfl) T.b_isinstance (by decide +kernel) (pa_cons (pv 0) (pa_cons (pe_cls T.x_NoPlay.g) pa_nil))) pa_nil))))))
      (pss_cons (ps_expr (pe_bm PySem.F.plainAttrs_list PySem.F.slot_list_append PySem.F.type_list_append mt_append (pv 1) (pa_cons (pe_callB call_isB (by rfl) T.b_isinstance (by decide +kernel) (pa_cons (pv 0) (pa_cons (pe_cls T.x_NoRings.g) pa_nil))) pa_nil)))
      (pss_cons (ps_set (i := 2) sc__law_which.nd rfl (.inl rfl) (pe_callB call_isBT (by rfl) T.b_isinstance (by decide +kernel) (pa_cons (pv 0) (pa_cons (pe_tup (pa_cons (pe_cls T.x_Full.g) (pa_cons (pe_cls T.x_NoLengths.g) (pa_cons (pe_cls T.x_NoName.g) (pa_cons (pe_cls T.x_NoRow.g) (pa_cons (pe_cls T.x_NoSeen.g) (pa_cons (pe_cls T.x_Nothing.g) (pa_cons (pe_cls T.x_NoWriting.g) (pa_cons (pe_cls T.x_TooMany.g) pa_nil))))))))) pa_nil))))
      (pss_cons (ps_set (i := 3) sc__law_which.nd rfl (.inl rfl) (pe_lst (pa_cons pe_str (pa_cons pe_str (pa_cons pe_str (pa_cons pe_str (pa_cons pe_str (pa_cons pe_str (pa_cons pe_str (pa_cons pe_str (pa_cons pe_str pa_nil)))))))))))
      (pss_cons (ps_expr (pe_bm PySem.F.plainAttrs_list PySem.F.slot_list_append PySem.F.type_list_append mt_append (pv 3) (pa_cons pe_str pa_nil)))
      (pss_one (ps_ret (pe_ifExp (PW.pt (pw_and (pt_cmpR op_eq (pe_bm PySem.F.plainAttrs_list PySem.F.slot_list_count PySem.F.type_list_count mt_countF (pv 1) (pa_cons pe_bl pa_nil)) pe_int (nomark _)) (pw_and1 (pt_not (pt_truth (pv 2) (by intro _; rfl)))))) (pe_ix ix_seq (pv 3) (pe_bm PySem.F.plainAttrs_list PySem.F.slot_list_index PySem.F.type_list_index mt_index (pv 1) (pa_cons pe_bl pa_nil)) (fun _ _ => rfl)) pe_str))))))))))), ?_⟩
  walk_at "rd"
  unfold whichOf at hD
  rcases hD with ⟨rfl, rfl⟩ | ⟨rfl, rfl⟩ | ⟨rfl, rfl⟩ | ⟨rfl, rfl⟩
  · refine ⟨_, rfl, a, _, _, _, _, rfl, ha, T.r_NoText.E, (fun _ r => r), (kit_ref T.x_KeysError T.x_NoText.sl T.s_NoText_KeysError), _, rfl, iteF ?_⟩
    refine ⟨_, rfl, a, _, _, _, _, rfl, ha, T.r_NoText.E, (fun _ r => r), (kit_val (by decide +kernel) T.r_NoText.sv), _, rfl, iteF ?_⟩
    refine ⟨_, rfl, a, _, _, _, _, rfl, ha, T.r_NoText.E, (fun _ r => r), kit_self, _, rfl, a, _, _, _, _, rfl, ha, T.r_NoText.E, (fun _ r => r), (kit_ref T.x_NoPlace T.x_NoText.sl T.s_NoText_NoPlace), _, rfl, a, _, _, _, _, rfl, ha, T.r_NoText.E, (fun _ r => r), (kit_ref T.x_NoNumber T.x_NoText.sl T.s_NoText_NoNumber), by show 3 ≤ sizeLine; decide, fun l1 n1 => ?_⟩
    have ha := same_upd (o := .lst [V.bl true, V.bl false, V.bl false]) n1 _ _ ha
    have s1 := same_upd (o := .lst [V.bl true, V.bl false, V.bl false]) n1
    have k1 := upd_same (H := H) (a := l1) (o := .lst [V.bl true, V.bl false, V.bl false])
    generalize upd H l1 (.lst [V.bl true, V.bl false, V.bl false]) = H1 at *
    refine ⟨_, rfl, _, rfl, a, _, _, _, _, rfl, ha, T.r_NoText.E, (fun _ r => r), (kit_ref T.x_NoLetter T.x_NoText.sl T.s_NoText_NoLetter), _, rfl, a, _, _, _, _, rfl, ha, T.r_NoText.E, (fun _ r => r), (kit_ref T.x_NoHand T.x_NoText.sl T.s_NoText_NoHand), _, rfl, a, _, _, _, _, rfl, ha, T.r_NoText.E, (fun _ r => r), (kit_ref T.x_NoSheet T.x_NoText.sl T.s_NoText_NoSheet), by show 3 ≤ sizeLine; decide, fun la n2 => ⟨l1, la, _, _, rfl, rfl, same_upd n2 _ _ k1, upd_same, by show 6 ≤ sizeLine; decide, fun lb2 n3 => ?_⟩⟩
    have s2 := (same_upd (o := .lst [V.bl false, V.bl false, V.bl false]) n2).trans (same_upd (o := .lst ([V.bl true, V.bl false, V.bl false] ++ [V.bl false, V.bl false, V.bl false])) n3)
    have ha := s2 _ _ ha
    have k2 := upd_same (H := upd H1 la (.lst [V.bl false, V.bl false, V.bl false])) (a := lb2) (o := .lst ([V.bl true, V.bl false, V.bl false] ++ [V.bl false, V.bl false, V.bl false]))
    have n0 : H1 lb2 = none := (same_upd (o := .lst [V.bl false, V.bl false, V.bl false]) n2).free n3
    have m2 : H lb2 = none := s1.free n0
    have s12 := s1.trans s2
    generalize upd (upd H1 la (.lst [V.bl false, V.bl false, V.bl false])) lb2 (.lst ([V.bl true, V.bl false, V.bl false] ++ [V.bl false, V.bl false, V.bl false])) = H2 at *
    clear s2 n2 n3 n0
    refine ⟨_, rfl, _, rfl, a, _, _, _, _, rfl, ha, T.r_NoText.E, (fun _ r => r), (kit_ref T.x_NoTimes T.x_NoText.sl T.s_NoText_NoTimes), _, rfl, a, _, _, _, _, rfl, ha, T.r_NoText.E, (fun _ r => r), (kit_ref T.x_NoStand T.x_NoText.sl T.s_NoText_NoStand), _, rfl, a, _, _, _, _, rfl, ha, T.r_NoText.E, (fun _ r => r), (kit_ref T.x_NoPlay T.x_NoText.sl T.s_NoText_NoPlay), by show 3 ≤ sizeLine; decide, fun la n2 => ⟨lb2, la, _, _, rfl, rfl, same_upd n2 _ _ k2, upd_same, by show 9 ≤ sizeLine; decide, fun lb3 n3 => ?_⟩⟩
    have s2 := (same_upd (o := .lst [V.bl false, V.bl false, V.bl false]) n2).trans (same_upd (o := .lst (([V.bl true, V.bl false, V.bl false] ++ [V.bl false, V.bl false, V.bl false]) ++ [V.bl false, V.bl false, V.bl false])) n3)
    have ha := s2 _ _ ha
    have k3 := upd_same (H := upd H2 la (.lst [V.bl false, V.bl false, V.bl false])) (a := lb3) (o := .lst (([V.bl true, V.bl false, V.bl false] ++ [V.bl false, V.bl false, V.bl false]) ++ [V.bl false, V.bl false, V.bl false]))
    have n0 : H2 lb3 = none := (same_upd (o := .lst [V.bl false, V.bl false, V.bl false]) n2).free n3
    have m3 : H lb3 = none := s12.free n0
    have s13 := s12.trans s2
    generalize upd (upd H2 la (.lst [V.bl false, V.bl false, V.bl false])) lb3 (.lst (([V.bl true, V.bl false, V.bl false] ++ [V.bl false, V.bl false, V.bl false]) ++ [V.bl false, V.bl false, V.bl false])) = H3 at *
    clear s2 n2 n3 n0
    refine ⟨_, rfl, .inl ⟨rfl, _, SqL.of k3⟩, _, rfl, a, _, _, _, _, rfl, ha, T.r_NoText.E, (fun _ r => r), (kit_ref T.x_NoRings T.x_NoText.sl T.s_NoText_NoRings), lb3, _, _, rfl, rfl, k3, by show 9 < sizeLine; decide, ?_⟩
    have k4 := upd_same (H := H3) (a := lb3) (o := .lst ((([V.bl true, V.bl false, V.bl false] ++ [V.bl false, V.bl false, V.bl false]) ++ [V.bl false, V.bl false, V.bl false]) ++ [V.bl false]))
    have na3 : a ≠ lb3 := fun z => by rw [z, k3] at ha; cases ha
    have ha : upd H3 lb3 (.lst ((([V.bl true, V.bl false, V.bl false] ++ [V.bl false, V.bl false, V.bl false]) ++ [V.bl false, V.bl false, V.bl false]) ++ [V.bl false])) a = some (ExB (.ref T.x_NoText.C) none a) := by rw [upd_ne na3]; exact ha
    have s14 : Same H (upd H3 lb3 (.lst ((([V.bl true, V.bl false, V.bl false] ++ [V.bl false, V.bl false, V.bl false]) ++ [V.bl false, V.bl false, V.bl false]) ++ [V.bl false]))) := same_mut s13 m3
    generalize upd H3 lb3 (.lst ((([V.bl true, V.bl false, V.bl false] ++ [V.bl false, V.bl false, V.bl false]) ++ [V.bl false, V.bl false, V.bl false]) ++ [V.bl false])) = H4 at *
    refine ⟨_, rfl, by show 8 ≤ sizeLine; decide, fun tp ntp => ⟨a, _, tp, [T.x_Full.C, T.x_NoLengths.C, T.x_NoName.C, T.x_NoRow.C, T.x_NoSeen.C, T.x_Nothing.C, T.x_NoWriting.C, T.x_TooMany.C], _, rfl, same_upd ntp _ _ ha, upd_same, T.r_NoText.E, (kit_cons (kit_ref T.x_Full T.x_NoText.sl T.s_NoText_Full) (kit_cons (kit_ref T.x_NoLengths T.x_NoText.sl T.s_NoText_NoLengths) (kit_cons (kit_ref T.x_NoName T.x_NoText.sl T.s_NoText_NoName) (kit_cons (kit_ref T.x_NoRow T.x_NoText.sl T.s_NoText_NoRow) (kit_cons (kit_ref T.x_NoSeen T.x_NoText.sl T.s_NoText_NoSeen) (kit_cons (kit_ref T.x_Nothing T.x_NoText.sl T.s_NoText_Nothing) (kit_cons (kit_ref T.x_NoWriting T.x_NoText.sl T.s_NoText_NoWriting) (kit_cons (kit_ref T.x_TooMany T.x_NoText.sl T.s_NoText_TooMany) kit_nil)))))))), ?_⟩⟩
    have s15 := s14.trans (same_upd (o := .tup [V.ref T.x_Full.C, V.ref T.x_NoLengths.C, V.ref T.x_NoName.C, V.ref T.x_NoRow.C, V.ref T.x_NoSeen.C, V.ref T.x_Nothing.C, V.ref T.x_NoWriting.C, V.ref T.x_TooMany.C]) ntp)
    have k5 := same_upd (o := .tup [V.ref T.x_Full.C, V.ref T.x_NoLengths.C, V.ref T.x_NoName.C, V.ref T.x_NoRow.C, V.ref T.x_NoSeen.C, V.ref T.x_Nothing.C, V.ref T.x_NoWriting.C, V.ref T.x_TooMany.C]) ntp _ _ k4
    generalize upd H4 tp (.tup [V.ref T.x_Full.C, V.ref T.x_NoLengths.C, V.ref T.x_NoName.C, V.ref T.x_NoRow.C, V.ref T.x_NoSeen.C, V.ref T.x_Nothing.C, V.ref T.x_NoWriting.C, V.ref T.x_TooMany.C]) = H5 at *
    refine ⟨by show 9 ≤ sizeLine; decide, fun wl nwl => ⟨_, rfl, .inl ⟨rfl, _, SqL.of upd_same⟩, wl, _, _, rfl, rfl, upd_same, by show 9 < sizeLine; decide, ?_⟩⟩
    have k6 := same_upd (o := .lst [V.str "NoText", V.str "NoPlace", V.str "NoNumber", V.str "NoLetter", V.str "NoHand", V.str "NoSheet", V.str "NoTimes", V.str "NoStand", V.str "NoPlay"]) nwl _ _ k5
    have kw := upd_same (H := upd H5 wl (.lst [V.str "NoText", V.str "NoPlace", V.str "NoNumber", V.str "NoLetter", V.str "NoHand", V.str "NoSheet", V.str "NoTimes", V.str "NoStand", V.str "NoPlay"])) (a := wl) (o := .lst ([V.str "NoText", V.str "NoPlace", V.str "NoNumber", V.str "NoLetter", V.str "NoHand", V.str "NoSheet", V.str "NoTimes", V.str "NoStand", V.str "NoPlay"] ++ [V.str "NoRings"]))
    have nlw : lb3 ≠ wl := fun z => by rw [z, nwl] at k5; cases k5
    have k7 : upd (upd H5 wl (.lst [V.str "NoText", V.str "NoPlace", V.str "NoNumber", V.str "NoLetter", V.str "NoHand", V.str "NoSheet", V.str "NoTimes", V.str "NoStand", V.str "NoPlay"])) wl (.lst ([V.str "NoText", V.str "NoPlace", V.str "NoNumber", V.str "NoLetter", V.str "NoHand", V.str "NoSheet", V.str "NoTimes", V.str "NoStand", V.str "NoPlay"] ++ [V.str "NoRings"])) lb3 = _ := (upd_ne nlw).trans k6
    have s16 : Same H (upd (upd H5 wl (.lst [V.str "NoText", V.str "NoPlace", V.str "NoNumber", V.str "NoLetter", V.str "NoHand", V.str "NoSheet", V.str "NoTimes", V.str "NoStand", V.str "NoPlay"])) wl (.lst ([V.str "NoText", V.str "NoPlace", V.str "NoNumber", V.str "NoLetter", V.str "NoHand", V.str "NoSheet", V.str "NoTimes", V.str "NoStand", V.str "NoPlay"] ++ [V.str "NoRings"]))) := same_mut (s15.trans (same_upd nwl)) (s15.free nwl)
    generalize upd (upd H5 wl (.lst [V.str "NoText", V.str "NoPlace", V.str "NoNumber", V.str "NoLetter", V.str "NoHand", V.str "NoSheet", V.str "NoTimes", V.str "NoStand", V.str "NoPlay"])) wl (.lst ([V.str "NoText", V.str "NoPlace", V.str "NoNumber", V.str "NoLetter", V.str "NoHand", V.str "NoSheet", V.str "NoTimes", V.str "NoStand", V.str "NoPlay"] ++ [V.str "NoRings"])) = H6 at *
    refine ⟨_, rfl, .inl ⟨rfl, _, SqL.of k7⟩, lb3, _, _, rfl, rfl, SqL.of k7, rfl, by decide, ?_⟩
    refine ⟨rfl, _, rfl, iteT ⟨_, rfl, false, rfl, iteT ⟨_, rfl, _, rfl, .inl ⟨rfl, _, SqL.of k7⟩, lb3, _, _, 0, _, rfl, rfl, SqL.of k7, rfl, by decide, rfl, rfl, fun m z' hm hz => ?_, ix_lst kw (at_ofA (j := 0) rfl rfl) (q _ s16)⟩⟩⟩
    exact absurd hm (Nat.not_lt_zero _)
  · refine ⟨_, rfl, a, _, _, _, _, rfl, ha, T.r_NoPlace.E, (fun _ r => r), (kit_ref T.x_KeysError T.x_NoPlace.sl T.s_NoPlace_KeysError), _, rfl, iteF ?_⟩
    refine ⟨_, rfl, a, _, _, _, _, rfl, ha, T.r_NoPlace.E, (fun _ r => r), (kit_val (by decide +kernel) T.r_NoPlace.sv), _, rfl, iteF ?_⟩
    refine ⟨_, rfl, a, _, _, _, _, rfl, ha, T.r_NoPlace.E, (fun _ r => r), (kit_ref T.x_NoText T.x_NoPlace.sl T.s_NoPlace_NoText), _, rfl, a, _, _, _, _, rfl, ha, T.r_NoPlace.E, (fun _ r => r), kit_self, _, rfl, a, _, _, _, _, rfl, ha, T.r_NoPlace.E, (fun _ r => r), (kit_ref T.x_NoNumber T.x_NoPlace.sl T.s_NoPlace_NoNumber), by show 3 ≤ sizeLine; decide, fun l1 n1 => ?_⟩
    have ha := same_upd (o := .lst [V.bl false, V.bl true, V.bl false]) n1 _ _ ha
    have s1 := same_upd (o := .lst [V.bl false, V.bl true, V.bl false]) n1
    have k1 := upd_same (H := H) (a := l1) (o := .lst [V.bl false, V.bl true, V.bl false])
    generalize upd H l1 (.lst [V.bl false, V.bl true, V.bl false]) = H1 at *
    refine ⟨_, rfl, _, rfl, a, _, _, _, _, rfl, ha, T.r_NoPlace.E, (fun _ r => r), (kit_ref T.x_NoLetter T.x_NoPlace.sl T.s_NoPlace_NoLetter), _, rfl, a, _, _, _, _, rfl, ha, T.r_NoPlace.E, (fun _ r => r), (kit_ref T.x_NoHand T.x_NoPlace.sl T.s_NoPlace_NoHand), _, rfl, a, _, _, _, _, rfl, ha, T.r_NoPlace.E, (fun _ r => r), (kit_ref T.x_NoSheet T.x_NoPlace.sl T.s_NoPlace_NoSheet), by show 3 ≤ sizeLine; decide, fun la n2 => ⟨l1, la, _, _, rfl, rfl, same_upd n2 _ _ k1, upd_same, by show 6 ≤ sizeLine; decide, fun lb2 n3 => ?_⟩⟩
    have s2 := (same_upd (o := .lst [V.bl false, V.bl false, V.bl false]) n2).trans (same_upd (o := .lst ([V.bl false, V.bl true, V.bl false] ++ [V.bl false, V.bl false, V.bl false])) n3)
    have ha := s2 _ _ ha
    have k2 := upd_same (H := upd H1 la (.lst [V.bl false, V.bl false, V.bl false])) (a := lb2) (o := .lst ([V.bl false, V.bl true, V.bl false] ++ [V.bl false, V.bl false, V.bl false]))
    have n0 : H1 lb2 = none := (same_upd (o := .lst [V.bl false, V.bl false, V.bl false]) n2).free n3
    have m2 : H lb2 = none := s1.free n0
    have s12 := s1.trans s2
    generalize upd (upd H1 la (.lst [V.bl false, V.bl false, V.bl false])) lb2 (.lst ([V.bl false, V.bl true, V.bl false] ++ [V.bl false, V.bl false, V.bl false])) = H2 at *
    clear s2 n2 n3 n0
    refine ⟨_, rfl, _, rfl, a, _, _, _, _, rfl, ha, T.r_NoPlace.E, (fun _ r => r), (kit_ref T.x_NoTimes T.x_NoPlace.sl T.s_NoPlace_NoTimes), _, rfl, a, _, _, _, _, rfl, ha, T.r_NoPlace.E, (fun _ r => r), (kit_ref T.x_NoStand T.x_NoPlace.sl T.s_NoPlace_NoStand), _, rfl, a, _, _, _, _, rfl, ha, T.r_NoPlace.E, (fun _ r => r), (kit_ref T.x_NoPlay T.x_NoPlace.sl T.s_NoPlace_NoPlay), by show 3 ≤ sizeLine; decide, fun la n2 => ⟨lb2, la, _, _, rfl, rfl, same_upd n2 _ _ k2, upd_same, by show 9 ≤ sizeLine; decide, fun lb3 n3 => ?_⟩⟩
    have s2 := (same_upd (o := .lst [V.bl false, V.bl false, V.bl false]) n2).trans (same_upd (o := .lst (([V.bl false, V.bl true, V.bl false] ++ [V.bl false, V.bl false, V.bl false]) ++ [V.bl false, V.bl false, V.bl false])) n3)
    have ha := s2 _ _ ha
    have k3 := upd_same (H := upd H2 la (.lst [V.bl false, V.bl false, V.bl false])) (a := lb3) (o := .lst (([V.bl false, V.bl true, V.bl false] ++ [V.bl false, V.bl false, V.bl false]) ++ [V.bl false, V.bl false, V.bl false]))
    have n0 : H2 lb3 = none := (same_upd (o := .lst [V.bl false, V.bl false, V.bl false]) n2).free n3
    have m3 : H lb3 = none := s12.free n0
    have s13 := s12.trans s2
    generalize upd (upd H2 la (.lst [V.bl false, V.bl false, V.bl false])) lb3 (.lst (([V.bl false, V.bl true, V.bl false] ++ [V.bl false, V.bl false, V.bl false]) ++ [V.bl false, V.bl false, V.bl false])) = H3 at *
    clear s2 n2 n3 n0
    refine ⟨_, rfl, .inl ⟨rfl, _, SqL.of k3⟩, _, rfl, a, _, _, _, _, rfl, ha, T.r_NoPlace.E, (fun _ r => r), (kit_ref T.x_NoRings T.x_NoPlace.sl T.s_NoPlace_NoRings), lb3, _, _, rfl, rfl, k3, by show 9 < sizeLine; decide, ?_⟩
    have k4 := upd_same (H := H3) (a := lb3) (o := .lst ((([V.bl false, V.bl true, V.bl false] ++ [V.bl false, V.bl false, V.bl false]) ++ [V.bl false, V.bl false, V.bl false]) ++ [V.bl false]))
    have na3 : a ≠ lb3 := fun z => by rw [z, k3] at ha; cases ha
    have ha : upd H3 lb3 (.lst ((([V.bl false, V.bl true, V.bl false] ++ [V.bl false, V.bl false, V.bl false]) ++ [V.bl false, V.bl false, V.bl false]) ++ [V.bl false])) a = some (ExB (.ref T.x_NoPlace.C) none a) := by rw [upd_ne na3]; exact ha
    have s14 : Same H (upd H3 lb3 (.lst ((([V.bl false, V.bl true, V.bl false] ++ [V.bl false, V.bl false, V.bl false]) ++ [V.bl false, V.bl false, V.bl false]) ++ [V.bl false]))) := same_mut s13 m3
    generalize upd H3 lb3 (.lst ((([V.bl false, V.bl true, V.bl false] ++ [V.bl false, V.bl false, V.bl false]) ++ [V.bl false, V.bl false, V.bl false]) ++ [V.bl false])) = H4 at *
    refine ⟨_, rfl, by show 8 ≤ sizeLine; decide, fun tp ntp => ⟨a, _, tp, [T.x_Full.C, T.x_NoLengths.C, T.x_NoName.C, T.x_NoRow.C, T.x_NoSeen.C, T.x_Nothing.C, T.x_NoWriting.C, T.x_TooMany.C], _, rfl, same_upd ntp _ _ ha, upd_same, T.r_NoPlace.E, (kit_cons (kit_ref T.x_Full T.x_NoPlace.sl T.s_NoPlace_Full) (kit_cons (kit_ref T.x_NoLengths T.x_NoPlace.sl T.s_NoPlace_NoLengths) (kit_cons (kit_ref T.x_NoName T.x_NoPlace.sl T.s_NoPlace_NoName) (kit_cons (kit_ref T.x_NoRow T.x_NoPlace.sl T.s_NoPlace_NoRow) (kit_cons (kit_ref T.x_NoSeen T.x_NoPlace.sl T.s_NoPlace_NoSeen) (kit_cons (kit_ref T.x_Nothing T.x_NoPlace.sl T.s_NoPlace_Nothing) (kit_cons (kit_ref T.x_NoWriting T.x_NoPlace.sl T.s_NoPlace_NoWriting) (kit_cons (kit_ref T.x_TooMany T.x_NoPlace.sl T.s_NoPlace_TooMany) kit_nil)))))))), ?_⟩⟩
    have s15 := s14.trans (same_upd (o := .tup [V.ref T.x_Full.C, V.ref T.x_NoLengths.C, V.ref T.x_NoName.C, V.ref T.x_NoRow.C, V.ref T.x_NoSeen.C, V.ref T.x_Nothing.C, V.ref T.x_NoWriting.C, V.ref T.x_TooMany.C]) ntp)
    have k5 := same_upd (o := .tup [V.ref T.x_Full.C, V.ref T.x_NoLengths.C, V.ref T.x_NoName.C, V.ref T.x_NoRow.C, V.ref T.x_NoSeen.C, V.ref T.x_Nothing.C, V.ref T.x_NoWriting.C, V.ref T.x_TooMany.C]) ntp _ _ k4
    generalize upd H4 tp (.tup [V.ref T.x_Full.C, V.ref T.x_NoLengths.C, V.ref T.x_NoName.C, V.ref T.x_NoRow.C, V.ref T.x_NoSeen.C, V.ref T.x_Nothing.C, V.ref T.x_NoWriting.C, V.ref T.x_TooMany.C]) = H5 at *
    refine ⟨by show 9 ≤ sizeLine; decide, fun wl nwl => ⟨_, rfl, .inl ⟨rfl, _, SqL.of upd_same⟩, wl, _, _, rfl, rfl, upd_same, by show 9 < sizeLine; decide, ?_⟩⟩
    have k6 := same_upd (o := .lst [V.str "NoText", V.str "NoPlace", V.str "NoNumber", V.str "NoLetter", V.str "NoHand", V.str "NoSheet", V.str "NoTimes", V.str "NoStand", V.str "NoPlay"]) nwl _ _ k5
    have kw := upd_same (H := upd H5 wl (.lst [V.str "NoText", V.str "NoPlace", V.str "NoNumber", V.str "NoLetter", V.str "NoHand", V.str "NoSheet", V.str "NoTimes", V.str "NoStand", V.str "NoPlay"])) (a := wl) (o := .lst ([V.str "NoText", V.str "NoPlace", V.str "NoNumber", V.str "NoLetter", V.str "NoHand", V.str "NoSheet", V.str "NoTimes", V.str "NoStand", V.str "NoPlay"] ++ [V.str "NoRings"]))
    have nlw : lb3 ≠ wl := fun z => by rw [z, nwl] at k5; cases k5
    have k7 : upd (upd H5 wl (.lst [V.str "NoText", V.str "NoPlace", V.str "NoNumber", V.str "NoLetter", V.str "NoHand", V.str "NoSheet", V.str "NoTimes", V.str "NoStand", V.str "NoPlay"])) wl (.lst ([V.str "NoText", V.str "NoPlace", V.str "NoNumber", V.str "NoLetter", V.str "NoHand", V.str "NoSheet", V.str "NoTimes", V.str "NoStand", V.str "NoPlay"] ++ [V.str "NoRings"])) lb3 = _ := (upd_ne nlw).trans k6
    have s16 : Same H (upd (upd H5 wl (.lst [V.str "NoText", V.str "NoPlace", V.str "NoNumber", V.str "NoLetter", V.str "NoHand", V.str "NoSheet", V.str "NoTimes", V.str "NoStand", V.str "NoPlay"])) wl (.lst ([V.str "NoText", V.str "NoPlace", V.str "NoNumber", V.str "NoLetter", V.str "NoHand", V.str "NoSheet", V.str "NoTimes", V.str "NoStand", V.str "NoPlay"] ++ [V.str "NoRings"]))) := same_mut (s15.trans (same_upd nwl)) (s15.free nwl)
    generalize upd (upd H5 wl (.lst [V.str "NoText", V.str "NoPlace", V.str "NoNumber", V.str "NoLetter", V.str "NoHand", V.str "NoSheet", V.str "NoTimes", V.str "NoStand", V.str "NoPlay"])) wl (.lst ([V.str "NoText", V.str "NoPlace", V.str "NoNumber", V.str "NoLetter", V.str "NoHand", V.str "NoSheet", V.str "NoTimes", V.str "NoStand", V.str "NoPlay"] ++ [V.str "NoRings"])) = H6 at *
    refine ⟨_, rfl, .inl ⟨rfl, _, SqL.of k7⟩, lb3, _, _, rfl, rfl, SqL.of k7, rfl, by decide, ?_⟩
    refine ⟨rfl, _, rfl, iteT ⟨_, rfl, false, rfl, iteT ⟨_, rfl, _, rfl, .inl ⟨rfl, _, SqL.of k7⟩, lb3, _, _, 1, _, rfl, rfl, SqL.of k7, rfl, by decide, rfl, rfl, fun m z' hm hz => ?_, ix_lst kw (at_ofA (j := 1) rfl rfl) (q _ s16)⟩⟩⟩
    have hm : m = 0 := by omega
    rcases hm with rfl <;> (cases hz; rfl)
  · refine ⟨_, rfl, a, _, _, _, _, rfl, ha, T.r_NoNumber.E, (fun _ r => r), (kit_ref T.x_KeysError T.x_NoNumber.sl T.s_NoNumber_KeysError), _, rfl, iteF ?_⟩
    refine ⟨_, rfl, a, _, _, _, _, rfl, ha, T.r_NoNumber.E, (fun _ r => r), (kit_val (by decide +kernel) T.r_NoNumber.sv), _, rfl, iteF ?_⟩
    refine ⟨_, rfl, a, _, _, _, _, rfl, ha, T.r_NoNumber.E, (fun _ r => r), (kit_ref T.x_NoText T.x_NoNumber.sl T.s_NoNumber_NoText), _, rfl, a, _, _, _, _, rfl, ha, T.r_NoNumber.E, (fun _ r => r), (kit_ref T.x_NoPlace T.x_NoNumber.sl T.s_NoNumber_NoPlace), _, rfl, a, _, _, _, _, rfl, ha, T.r_NoNumber.E, (fun _ r => r), kit_self, by show 3 ≤ sizeLine; decide, fun l1 n1 => ?_⟩
    have ha := same_upd (o := .lst [V.bl false, V.bl false, V.bl true]) n1 _ _ ha
    have s1 := same_upd (o := .lst [V.bl false, V.bl false, V.bl true]) n1
    have k1 := upd_same (H := H) (a := l1) (o := .lst [V.bl false, V.bl false, V.bl true])
    generalize upd H l1 (.lst [V.bl false, V.bl false, V.bl true]) = H1 at *
    refine ⟨_, rfl, _, rfl, a, _, _, _, _, rfl, ha, T.r_NoNumber.E, (fun _ r => r), (kit_ref T.x_NoLetter T.x_NoNumber.sl T.s_NoNumber_NoLetter), _, rfl, a, _, _, _, _, rfl, ha, T.r_NoNumber.E, (fun _ r => r), (kit_ref T.x_NoHand T.x_NoNumber.sl T.s_NoNumber_NoHand), _, rfl, a, _, _, _, _, rfl, ha, T.r_NoNumber.E, (fun _ r => r), (kit_ref T.x_NoSheet T.x_NoNumber.sl T.s_NoNumber_NoSheet), by show 3 ≤ sizeLine; decide, fun la n2 => ⟨l1, la, _, _, rfl, rfl, same_upd n2 _ _ k1, upd_same, by show 6 ≤ sizeLine; decide, fun lb2 n3 => ?_⟩⟩
    have s2 := (same_upd (o := .lst [V.bl false, V.bl false, V.bl false]) n2).trans (same_upd (o := .lst ([V.bl false, V.bl false, V.bl true] ++ [V.bl false, V.bl false, V.bl false])) n3)
    have ha := s2 _ _ ha
    have k2 := upd_same (H := upd H1 la (.lst [V.bl false, V.bl false, V.bl false])) (a := lb2) (o := .lst ([V.bl false, V.bl false, V.bl true] ++ [V.bl false, V.bl false, V.bl false]))
    have n0 : H1 lb2 = none := (same_upd (o := .lst [V.bl false, V.bl false, V.bl false]) n2).free n3
    have m2 : H lb2 = none := s1.free n0
    have s12 := s1.trans s2
    generalize upd (upd H1 la (.lst [V.bl false, V.bl false, V.bl false])) lb2 (.lst ([V.bl false, V.bl false, V.bl true] ++ [V.bl false, V.bl false, V.bl false])) = H2 at *
    clear s2 n2 n3 n0
    refine ⟨_, rfl, _, rfl, a, _, _, _, _, rfl, ha, T.r_NoNumber.E, (fun _ r => r), (kit_ref T.x_NoTimes T.x_NoNumber.sl T.s_NoNumber_NoTimes), _, rfl, a, _, _, _, _, rfl, ha, T.r_NoNumber.E, (fun _ r => r), (kit_ref T.x_NoStand T.x_NoNumber.sl T.s_NoNumber_NoStand), _, rfl, a, _, _, _, _, rfl, ha, T.r_NoNumber.E, (fun _ r => r), (kit_ref T.x_NoPlay T.x_NoNumber.sl T.s_NoNumber_NoPlay), by show 3 ≤ sizeLine; decide, fun la n2 => ⟨lb2, la, _, _, rfl, rfl, same_upd n2 _ _ k2, upd_same, by show 9 ≤ sizeLine; decide, fun lb3 n3 => ?_⟩⟩
    have s2 := (same_upd (o := .lst [V.bl false, V.bl false, V.bl false]) n2).trans (same_upd (o := .lst (([V.bl false, V.bl false, V.bl true] ++ [V.bl false, V.bl false, V.bl false]) ++ [V.bl false, V.bl false, V.bl false])) n3)
    have ha := s2 _ _ ha
    have k3 := upd_same (H := upd H2 la (.lst [V.bl false, V.bl false, V.bl false])) (a := lb3) (o := .lst (([V.bl false, V.bl false, V.bl true] ++ [V.bl false, V.bl false, V.bl false]) ++ [V.bl false, V.bl false, V.bl false]))
    have n0 : H2 lb3 = none := (same_upd (o := .lst [V.bl false, V.bl false, V.bl false]) n2).free n3
    have m3 : H lb3 = none := s12.free n0
    have s13 := s12.trans s2
    generalize upd (upd H2 la (.lst [V.bl false, V.bl false, V.bl false])) lb3 (.lst (([V.bl false, V.bl false, V.bl true] ++ [V.bl false, V.bl false, V.bl false]) ++ [V.bl false, V.bl false, V.bl false])) = H3 at *
    clear s2 n2 n3 n0
    refine ⟨_, rfl, .inl ⟨rfl, _, SqL.of k3⟩, _, rfl, a, _, _, _, _, rfl, ha, T.r_NoNumber.E, (fun _ r => r), (kit_ref T.x_NoRings T.x_NoNumber.sl T.s_NoNumber_NoRings), lb3, _, _, rfl, rfl, k3, by show 9 < sizeLine; decide, ?_⟩
    have k4 := upd_same (H := H3) (a := lb3) (o := .lst ((([V.bl false, V.bl false, V.bl true] ++ [V.bl false, V.bl false, V.bl false]) ++ [V.bl false, V.bl false, V.bl false]) ++ [V.bl false]))
    have na3 : a ≠ lb3 := fun z => by rw [z, k3] at ha; cases ha
    have ha : upd H3 lb3 (.lst ((([V.bl false, V.bl false, V.bl true] ++ [V.bl false, V.bl false, V.bl false]) ++ [V.bl false, V.bl false, V.bl false]) ++ [V.bl false])) a = some (ExB (.ref T.x_NoNumber.C) none a) := by rw [upd_ne na3]; exact ha
    have s14 : Same H (upd H3 lb3 (.lst ((([V.bl false, V.bl false, V.bl true] ++ [V.bl false, V.bl false, V.bl false]) ++ [V.bl false, V.bl false, V.bl false]) ++ [V.bl false]))) := same_mut s13 m3
    generalize upd H3 lb3 (.lst ((([V.bl false, V.bl false, V.bl true] ++ [V.bl false, V.bl false, V.bl false]) ++ [V.bl false, V.bl false, V.bl false]) ++ [V.bl false])) = H4 at *
    refine ⟨_, rfl, by show 8 ≤ sizeLine; decide, fun tp ntp => ⟨a, _, tp, [T.x_Full.C, T.x_NoLengths.C, T.x_NoName.C, T.x_NoRow.C, T.x_NoSeen.C, T.x_Nothing.C, T.x_NoWriting.C, T.x_TooMany.C], _, rfl, same_upd ntp _ _ ha, upd_same, T.r_NoNumber.E, (kit_cons (kit_ref T.x_Full T.x_NoNumber.sl T.s_NoNumber_Full) (kit_cons (kit_ref T.x_NoLengths T.x_NoNumber.sl T.s_NoNumber_NoLengths) (kit_cons (kit_ref T.x_NoName T.x_NoNumber.sl T.s_NoNumber_NoName) (kit_cons (kit_ref T.x_NoRow T.x_NoNumber.sl T.s_NoNumber_NoRow) (kit_cons (kit_ref T.x_NoSeen T.x_NoNumber.sl T.s_NoNumber_NoSeen) (kit_cons (kit_ref T.x_Nothing T.x_NoNumber.sl T.s_NoNumber_Nothing) (kit_cons (kit_ref T.x_NoWriting T.x_NoNumber.sl T.s_NoNumber_NoWriting) (kit_cons (kit_ref T.x_TooMany T.x_NoNumber.sl T.s_NoNumber_TooMany) kit_nil)))))))), ?_⟩⟩
    have s15 := s14.trans (same_upd (o := .tup [V.ref T.x_Full.C, V.ref T.x_NoLengths.C, V.ref T.x_NoName.C, V.ref T.x_NoRow.C, V.ref T.x_NoSeen.C, V.ref T.x_Nothing.C, V.ref T.x_NoWriting.C, V.ref T.x_TooMany.C]) ntp)
    have k5 := same_upd (o := .tup [V.ref T.x_Full.C, V.ref T.x_NoLengths.C, V.ref T.x_NoName.C, V.ref T.x_NoRow.C, V.ref T.x_NoSeen.C, V.ref T.x_Nothing.C, V.ref T.x_NoWriting.C, V.ref T.x_TooMany.C]) ntp _ _ k4
    generalize upd H4 tp (.tup [V.ref T.x_Full.C, V.ref T.x_NoLengths.C, V.ref T.x_NoName.C, V.ref T.x_NoRow.C, V.ref T.x_NoSeen.C, V.ref T.x_Nothing.C, V.ref T.x_NoWriting.C, V.ref T.x_TooMany.C]) = H5 at *
    refine ⟨by show 9 ≤ sizeLine; decide, fun wl nwl => ⟨_, rfl, .inl ⟨rfl, _, SqL.of upd_same⟩, wl, _, _, rfl, rfl, upd_same, by show 9 < sizeLine; decide, ?_⟩⟩
    have k6 := same_upd (o := .lst [V.str "NoText", V.str "NoPlace", V.str "NoNumber", V.str "NoLetter", V.str "NoHand", V.str "NoSheet", V.str "NoTimes", V.str "NoStand", V.str "NoPlay"]) nwl _ _ k5
    have kw := upd_same (H := upd H5 wl (.lst [V.str "NoText", V.str "NoPlace", V.str "NoNumber", V.str "NoLetter", V.str "NoHand", V.str "NoSheet", V.str "NoTimes", V.str "NoStand", V.str "NoPlay"])) (a := wl) (o := .lst ([V.str "NoText", V.str "NoPlace", V.str "NoNumber", V.str "NoLetter", V.str "NoHand", V.str "NoSheet", V.str "NoTimes", V.str "NoStand", V.str "NoPlay"] ++ [V.str "NoRings"]))
    have nlw : lb3 ≠ wl := fun z => by rw [z, nwl] at k5; cases k5
    have k7 : upd (upd H5 wl (.lst [V.str "NoText", V.str "NoPlace", V.str "NoNumber", V.str "NoLetter", V.str "NoHand", V.str "NoSheet", V.str "NoTimes", V.str "NoStand", V.str "NoPlay"])) wl (.lst ([V.str "NoText", V.str "NoPlace", V.str "NoNumber", V.str "NoLetter", V.str "NoHand", V.str "NoSheet", V.str "NoTimes", V.str "NoStand", V.str "NoPlay"] ++ [V.str "NoRings"])) lb3 = _ := (upd_ne nlw).trans k6
    have s16 : Same H (upd (upd H5 wl (.lst [V.str "NoText", V.str "NoPlace", V.str "NoNumber", V.str "NoLetter", V.str "NoHand", V.str "NoSheet", V.str "NoTimes", V.str "NoStand", V.str "NoPlay"])) wl (.lst ([V.str "NoText", V.str "NoPlace", V.str "NoNumber", V.str "NoLetter", V.str "NoHand", V.str "NoSheet", V.str "NoTimes", V.str "NoStand", V.str "NoPlay"] ++ [V.str "NoRings"]))) := same_mut (s15.trans (same_upd nwl)) (s15.free nwl)
    generalize upd (upd H5 wl (.lst [V.str "NoText", V.str "NoPlace", V.str "NoNumber", V.str "NoLetter", V.str "NoHand", V.str "NoSheet", V.str "NoTimes", V.str "NoStand", V.str "NoPlay"])) wl (.lst ([V.str "NoText", V.str "NoPlace", V.str "NoNumber", V.str "NoLetter", V.str "NoHand", V.str "NoSheet", V.str "NoTimes", V.str "NoStand", V.str "NoPlay"] ++ [V.str "NoRings"])) = H6 at *
    refine ⟨_, rfl, .inl ⟨rfl, _, SqL.of k7⟩, lb3, _, _, rfl, rfl, SqL.of k7, rfl, by decide, ?_⟩
    refine ⟨rfl, _, rfl, iteT ⟨_, rfl, false, rfl, iteT ⟨_, rfl, _, rfl, .inl ⟨rfl, _, SqL.of k7⟩, lb3, _, _, 2, _, rfl, rfl, SqL.of k7, rfl, by decide, rfl, rfl, fun m z' hm hz => ?_, ix_lst kw (at_ofA (j := 2) rfl rfl) (q _ s16)⟩⟩⟩
    have hm : m = 0 ∨ m = 1 := by omega
    rcases hm with rfl | rfl <;> (cases hz; rfl)
  · refine ⟨_, rfl, a, _, _, _, _, rfl, ha, T.r_NoLetter.E, (fun _ r => r), (kit_ref T.x_KeysError T.x_NoLetter.sl T.s_NoLetter_KeysError), _, rfl, iteF ?_⟩
    refine ⟨_, rfl, a, _, _, _, _, rfl, ha, T.r_NoLetter.E, (fun _ r => r), (kit_val (by decide +kernel) T.r_NoLetter.sv), _, rfl, iteF ?_⟩
    refine ⟨_, rfl, a, _, _, _, _, rfl, ha, T.r_NoLetter.E, (fun _ r => r), (kit_ref T.x_NoText T.x_NoLetter.sl T.s_NoLetter_NoText), _, rfl, a, _, _, _, _, rfl, ha, T.r_NoLetter.E, (fun _ r => r), (kit_ref T.x_NoPlace T.x_NoLetter.sl T.s_NoLetter_NoPlace), _, rfl, a, _, _, _, _, rfl, ha, T.r_NoLetter.E, (fun _ r => r), (kit_ref T.x_NoNumber T.x_NoLetter.sl T.s_NoLetter_NoNumber), by show 3 ≤ sizeLine; decide, fun l1 n1 => ?_⟩
    have ha := same_upd (o := .lst [V.bl false, V.bl false, V.bl false]) n1 _ _ ha
    have s1 := same_upd (o := .lst [V.bl false, V.bl false, V.bl false]) n1
    have k1 := upd_same (H := H) (a := l1) (o := .lst [V.bl false, V.bl false, V.bl false])
    generalize upd H l1 (.lst [V.bl false, V.bl false, V.bl false]) = H1 at *
    refine ⟨_, rfl, _, rfl, a, _, _, _, _, rfl, ha, T.r_NoLetter.E, (fun _ r => r), kit_self, _, rfl, a, _, _, _, _, rfl, ha, T.r_NoLetter.E, (fun _ r => r), (kit_ref T.x_NoHand T.x_NoLetter.sl T.s_NoLetter_NoHand), _, rfl, a, _, _, _, _, rfl, ha, T.r_NoLetter.E, (fun _ r => r), (kit_ref T.x_NoSheet T.x_NoLetter.sl T.s_NoLetter_NoSheet), by show 3 ≤ sizeLine; decide, fun la n2 => ⟨l1, la, _, _, rfl, rfl, same_upd n2 _ _ k1, upd_same, by show 6 ≤ sizeLine; decide, fun lb2 n3 => ?_⟩⟩
    have s2 := (same_upd (o := .lst [V.bl true, V.bl false, V.bl false]) n2).trans (same_upd (o := .lst ([V.bl false, V.bl false, V.bl false] ++ [V.bl true, V.bl false, V.bl false])) n3)
    have ha := s2 _ _ ha
    have k2 := upd_same (H := upd H1 la (.lst [V.bl true, V.bl false, V.bl false])) (a := lb2) (o := .lst ([V.bl false, V.bl false, V.bl false] ++ [V.bl true, V.bl false, V.bl false]))
    have n0 : H1 lb2 = none := (same_upd (o := .lst [V.bl true, V.bl false, V.bl false]) n2).free n3
    have m2 : H lb2 = none := s1.free n0
    have s12 := s1.trans s2
    generalize upd (upd H1 la (.lst [V.bl true, V.bl false, V.bl false])) lb2 (.lst ([V.bl false, V.bl false, V.bl false] ++ [V.bl true, V.bl false, V.bl false])) = H2 at *
    clear s2 n2 n3 n0
    refine ⟨_, rfl, _, rfl, a, _, _, _, _, rfl, ha, T.r_NoLetter.E, (fun _ r => r), (kit_ref T.x_NoTimes T.x_NoLetter.sl T.s_NoLetter_NoTimes), _, rfl, a, _, _, _, _, rfl, ha, T.r_NoLetter.E, (fun _ r => r), (kit_ref T.x_NoStand T.x_NoLetter.sl T.s_NoLetter_NoStand), _, rfl, a, _, _, _, _, rfl, ha, T.r_NoLetter.E, (fun _ r => r), (kit_ref T.x_NoPlay T.x_NoLetter.sl T.s_NoLetter_NoPlay), by show 3 ≤ sizeLine; decide, fun la n2 => ⟨lb2, la, _, _, rfl, rfl, same_upd n2 _ _ k2, upd_same, by show 9 ≤ sizeLine; decide, fun lb3 n3 => ?_⟩⟩
    have s2 := (same_upd (o := .lst [V.bl false, V.bl false, V.bl false]) n2).trans (same_upd (o := .lst (([V.bl false, V.bl false, V.bl false] ++ [V.bl true, V.bl false, V.bl false]) ++ [V.bl false, V.bl false, V.bl false])) n3)
    have ha := s2 _ _ ha
    have k3 := upd_same (H := upd H2 la (.lst [V.bl false, V.bl false, V.bl false])) (a := lb3) (o := .lst (([V.bl false, V.bl false, V.bl false] ++ [V.bl true, V.bl false, V.bl false]) ++ [V.bl false, V.bl false, V.bl false]))
    have n0 : H2 lb3 = none := (same_upd (o := .lst [V.bl false, V.bl false, V.bl false]) n2).free n3
    have m3 : H lb3 = none := s12.free n0
    have s13 := s12.trans s2
    generalize upd (upd H2 la (.lst [V.bl false, V.bl false, V.bl false])) lb3 (.lst (([V.bl false, V.bl false, V.bl false] ++ [V.bl true, V.bl false, V.bl false]) ++ [V.bl false, V.bl false, V.bl false])) = H3 at *
    clear s2 n2 n3 n0
    refine ⟨_, rfl, .inl ⟨rfl, _, SqL.of k3⟩, _, rfl, a, _, _, _, _, rfl, ha, T.r_NoLetter.E, (fun _ r => r), (kit_ref T.x_NoRings T.x_NoLetter.sl T.s_NoLetter_NoRings), lb3, _, _, rfl, rfl, k3, by show 9 < sizeLine; decide, ?_⟩
    have k4 := upd_same (H := H3) (a := lb3) (o := .lst ((([V.bl false, V.bl false, V.bl false] ++ [V.bl true, V.bl false, V.bl false]) ++ [V.bl false, V.bl false, V.bl false]) ++ [V.bl false]))
    have na3 : a ≠ lb3 := fun z => by rw [z, k3] at ha; cases ha
    have ha : upd H3 lb3 (.lst ((([V.bl false, V.bl false, V.bl false] ++ [V.bl true, V.bl false, V.bl false]) ++ [V.bl false, V.bl false, V.bl false]) ++ [V.bl false])) a = some (ExB (.ref T.x_NoLetter.C) none a) := by rw [upd_ne na3]; exact ha
    have s14 : Same H (upd H3 lb3 (.lst ((([V.bl false, V.bl false, V.bl false] ++ [V.bl true, V.bl false, V.bl false]) ++ [V.bl false, V.bl false, V.bl false]) ++ [V.bl false]))) := same_mut s13 m3
    generalize upd H3 lb3 (.lst ((([V.bl false, V.bl false, V.bl false] ++ [V.bl true, V.bl false, V.bl false]) ++ [V.bl false, V.bl false, V.bl false]) ++ [V.bl false])) = H4 at *
    refine ⟨_, rfl, by show 8 ≤ sizeLine; decide, fun tp ntp => ⟨a, _, tp, [T.x_Full.C, T.x_NoLengths.C, T.x_NoName.C, T.x_NoRow.C, T.x_NoSeen.C, T.x_Nothing.C, T.x_NoWriting.C, T.x_TooMany.C], _, rfl, same_upd ntp _ _ ha, upd_same, T.r_NoLetter.E, (kit_cons (kit_ref T.x_Full T.x_NoLetter.sl T.s_NoLetter_Full) (kit_cons (kit_ref T.x_NoLengths T.x_NoLetter.sl T.s_NoLetter_NoLengths) (kit_cons (kit_ref T.x_NoName T.x_NoLetter.sl T.s_NoLetter_NoName) (kit_cons (kit_ref T.x_NoRow T.x_NoLetter.sl T.s_NoLetter_NoRow) (kit_cons (kit_ref T.x_NoSeen T.x_NoLetter.sl T.s_NoLetter_NoSeen) (kit_cons (kit_ref T.x_Nothing T.x_NoLetter.sl T.s_NoLetter_Nothing) (kit_cons (kit_ref T.x_NoWriting T.x_NoLetter.sl T.s_NoLetter_NoWriting) (kit_cons (kit_ref T.x_TooMany T.x_NoLetter.sl T.s_NoLetter_TooMany) kit_nil)))))))), ?_⟩⟩
    have s15 := s14.trans (same_upd (o := .tup [V.ref T.x_Full.C, V.ref T.x_NoLengths.C, V.ref T.x_NoName.C, V.ref T.x_NoRow.C, V.ref T.x_NoSeen.C, V.ref T.x_Nothing.C, V.ref T.x_NoWriting.C, V.ref T.x_TooMany.C]) ntp)
    have k5 := same_upd (o := .tup [V.ref T.x_Full.C, V.ref T.x_NoLengths.C, V.ref T.x_NoName.C, V.ref T.x_NoRow.C, V.ref T.x_NoSeen.C, V.ref T.x_Nothing.C, V.ref T.x_NoWriting.C, V.ref T.x_TooMany.C]) ntp _ _ k4
    generalize upd H4 tp (.tup [V.ref T.x_Full.C, V.ref T.x_NoLengths.C, V.ref T.x_NoName.C, V.ref T.x_NoRow.C, V.ref T.x_NoSeen.C, V.ref T.x_Nothing.C, V.ref T.x_NoWriting.C, V.ref T.x_TooMany.C]) = H5 at *
    refine ⟨by show 9 ≤ sizeLine; decide, fun wl nwl => ⟨_, rfl, .inl ⟨rfl, _, SqL.of upd_same⟩, wl, _, _, rfl, rfl, upd_same, by show 9 < sizeLine; decide, ?_⟩⟩
    have k6 := same_upd (o := .lst [V.str "NoText", V.str "NoPlace", V.str "NoNumber", V.str "NoLetter", V.str "NoHand", V.str "NoSheet", V.str "NoTimes", V.str "NoStand", V.str "NoPlay"]) nwl _ _ k5
    have kw := upd_same (H := upd H5 wl (.lst [V.str "NoText", V.str "NoPlace", V.str "NoNumber", V.str "NoLetter", V.str "NoHand", V.str "NoSheet", V.str "NoTimes", V.str "NoStand", V.str "NoPlay"])) (a := wl) (o := .lst ([V.str "NoText", V.str "NoPlace", V.str "NoNumber", V.str "NoLetter", V.str "NoHand", V.str "NoSheet", V.str "NoTimes", V.str "NoStand", V.str "NoPlay"] ++ [V.str "NoRings"]))
    have nlw : lb3 ≠ wl := fun z => by rw [z, nwl] at k5; cases k5
    have k7 : upd (upd H5 wl (.lst [V.str "NoText", V.str "NoPlace", V.str "NoNumber", V.str "NoLetter", V.str "NoHand", V.str "NoSheet", V.str "NoTimes", V.str "NoStand", V.str "NoPlay"])) wl (.lst ([V.str "NoText", V.str "NoPlace", V.str "NoNumber", V.str "NoLetter", V.str "NoHand", V.str "NoSheet", V.str "NoTimes", V.str "NoStand", V.str "NoPlay"] ++ [V.str "NoRings"])) lb3 = _ := (upd_ne nlw).trans k6
    have s16 : Same H (upd (upd H5 wl (.lst [V.str "NoText", V.str "NoPlace", V.str "NoNumber", V.str "NoLetter", V.str "NoHand", V.str "NoSheet", V.str "NoTimes", V.str "NoStand", V.str "NoPlay"])) wl (.lst ([V.str "NoText", V.str "NoPlace", V.str "NoNumber", V.str "NoLetter", V.str "NoHand", V.str "NoSheet", V.str "NoTimes", V.str "NoStand", V.str "NoPlay"] ++ [V.str "NoRings"]))) := same_mut (s15.trans (same_upd nwl)) (s15.free nwl)
    generalize upd (upd H5 wl (.lst [V.str "NoText", V.str "NoPlace", V.str "NoNumber", V.str "NoLetter", V.str "NoHand", V.str "NoSheet", V.str "NoTimes", V.str "NoStand", V.str "NoPlay"])) wl (.lst ([V.str "NoText", V.str "NoPlace", V.str "NoNumber", V.str "NoLetter", V.str "NoHand", V.str "NoSheet", V.str "NoTimes", V.str "NoStand", V.str "NoPlay"] ++ [V.str "NoRings"])) = H6 at *
    refine ⟨_, rfl, .inl ⟨rfl, _, SqL.of k7⟩, lb3, _, _, rfl, rfl, SqL.of k7, rfl, by decide, ?_⟩
    refine ⟨rfl, _, rfl, iteT ⟨_, rfl, false, rfl, iteT ⟨_, rfl, _, rfl, .inl ⟨rfl, _, SqL.of k7⟩, lb3, _, _, 3, _, rfl, rfl, SqL.of k7, rfl, by decide, rfl, rfl, fun m z' hm hz => ?_, ix_lst kw (at_ofA (j := 3) rfl rfl) (q _ s16)⟩⟩⟩
    have hm : m = 0 ∨ m = 1 ∨ m = 2 := by omega
    rcases hm with rfl | rfl | rfl <;> (cases hz; rfl)

/-! ## one question of the law -/
/-- what is asked, and which error is due -/
inductive Due (T : Txt K mg) : Nat → Dt → Dt → Dt → Addr → Str → Prop
  | letter0 {d e r} : isText d = false → Due T 0 d e r T.x_NoText.C "NoText"
  | letter1 {d e r} : isText d = true → isWithin e 0 ((size (pcs d) : Int) - 1) = false → Due T 0 d e r T.x_NoPlace.C "NoPlace"
  | looks0 {d e r} : isText d = false → Due T 1 d e r T.x_NoText.C "NoText"
  | looks1 {d e r} : isText d = true → isWithin e 0 (size (pcs d) : Int) = false → Due T 1 d e r T.x_NoPlace.C "NoPlace"
  | looks2 {d e r} : isText d = true → isWithin e 0 (size (pcs d) : Int) = true → isWithin r 0 2000 = false → Due T 1 d e r T.x_NoNumber.C "NoNumber"
  | count0 {d e r} : isText d = false → Due T 2 d e r T.x_NoText.C "NoText"
  | count1 {d e r} : isText d = true → isLetter e = false → Due T 2 d e r T.x_NoLetter.C "NoLetter"
  | count2 {d e r} : isText d = true → isLetter e = true → isWithin r 0 (size (pcs d) : Int) = false → Due T 2 d e r T.x_NoNumber.C "NoNumber"
  | nth0 {d e r} : isText d = false → Due T 3 d e r T.x_NoText.C "NoText"
  | nth1 {d e r} : isText d = true → isLetter e = false → Due T 3 d e r T.x_NoLetter.C "NoLetter"
  | nth2 {d e r} : isText d = true → isLetter e = true → isWhole r 0 = false → Due T 3 d e r T.x_NoNumber.C "NoNumber"
  | un4 {d e r} : isText d = false ∨ isText e = false → Due T 4 d e r T.x_NoText.C "NoText"
  | un5 {d e r} : isText d = false ∨ isText e = false → Due T 5 d e r T.x_NoText.C "NoText"
/-- what is asked, and nothing is due -/
inductive Fine : Nat → Dt → Dt → Dt → Prop
  | letter {d r} {place c : Nat} : isText d = true → (spell (pcs d))[place]? = some c → Fine 0 d (.int (place : Int)) r
  | looks {d} {place many : Nat} : isText d = true → place ≤ size (pcs d) → many ≤ 2000 → Fine 1 d (.int (place : Int)) (.int (many : Int))
  | count {d} {c many : Nat} : isText d = true → alpha.contains c = true → many ≤ size (pcs d) → Fine 2 d (.str [c]) (.int (many : Int))
  | nth {d} {c k : Nat} : isText d = true → alpha.contains c = true → Fine 3 d (.str [c]) (.int (k : Int))
  | un {d e r} : isText d = true → isText e = true → Fine 4 d e r
theorem iteN {A B : Prop} {b : Bool} (h : b = false) (q : B) : (if b = true then A else B) := by rw [h, if_neg Bool.false_ne_true]; exact q
theorem iteY {A B : Prop} {b : Bool} (h : b = true) (q : A) : (if b = true then A else B) := by rw [h, if_pos rfl]; exact q
theorem keep_to {c : Value} {N bk ct : L2.St → Hp → Prop} {R : VK} {D : Addr} {σ : L2.St} {H1 : Hp} {Wout : WX} {x0 x1 x2 x3 x4 x5 : Option V} (hx : PySem.W.exmOne K (.ref D) c = some true) (hσ : σ = [x0, x1, x2, x3, x4, x5])
    (hN : ∀ a, H1 a = none → N [x0, x1, x2, x3, some (.ref a), none] (upd H1 a (ExB (.ref D) none a))) : wKeep K c 5 (fun a cls d => tAsg (tVar 5) (gName 4)) Wout { nx := N, rt := R, bk := bk, ct := ct } (.ref D) none σ H1 := by
  subst hσ
  exact ⟨true, hx, fun _ a na => ⟨_, rfl, fun _ => hN a na⟩, fun z => (by cases z)⟩
def spAsked (T : Txt K mg) : Sp := fun vs H Q _ => ∃ (ask : Nat) (v u o : V) (d e r : Dt), vs = [.int (ask : Int), v, u, o] ∧ At K H v d ∧ At K H u e ∧ At K H o r ∧
  ((∃ D n, Due T ask d e r D n ∧ ∀ H', Same H H' → Q (.str n) H') ∨ (Fine ask d e r ∧ ∀ H', Same H H' → Q (.str "none") H'))
theorem ok__law_asked (T : Txt K mg) : FnOk P w K mg base CX0 8 T.f__law_asked.f T.f__law_asked.fd ["ask", "text", "one", "other"] (spAsked T) := by
  refine T.f__law_asked.F.ok sc__law_asked (fun vs H Q E h => ?_) (fun cdv A outer s H vs Q E hr h => ?_)
  · obtain ⟨ask, v, u, o, d, e, r, rfl, _⟩ := h
    rfl
  obtain ⟨ask, v, u, o, d, e, r, rfl, hv, hu, ho, q⟩ := h
  refine ⟨_, (pss_cons (ps_set (i := 4) sc__law_asked.nd rfl (.inl rfl) pe_non)
      (pss_cons (ps_tryK (i := 5) (Wout := fun _ _ _ _ => False) rfl rfl sc__law_asked.nd rfl rfl ⟨rfl, by decide, .inl T.x_KeysError.g⟩ takes0
      (fun W pn xe tk _ => (pss_one (ps_if (pt_cmpR op_eq (pv 0) pe_int (nomark _)) (pss_one (ps_expr (pe_callS (okx_letter T) (hr.mono (by decide)) (by rfl) T.f_letter.g T.f_letter.F.kp T.f_letter.b (fun σ => passAt tk σ) (pa_cons (pv 1) (pa_cons (pv 2) pa_nil))))) (pss_one (ps_if (pt_cmpR op_eq (pv 0) pe_int (nomark _)) (pss_one (ps_expr (pe_callS (okx_looks T) (hr.mono (by decide)) (by rfl) T.f_looks.g T.f_looks.F.kp T.f_looks.b (fun σ => passAt tk σ) (pa_cons (pv 1) (pa_cons (pv 2) (pa_cons (pv 3) pa_nil)))))) (pss_one (ps_if (pt_cmpR op_eq (pv 0) pe_int (nomark _)) (pss_one (ps_expr (pe_callS (okx_count T) (hr.mono (by decide)) (by rfl) T.f_count.g T.f_count.F.kp T.f_count.b (fun σ => passAt tk σ) (pa_cons (pv 1) (pa_cons (pv 2) (pa_cons (pv 3) pa_nil)))))) (pss_one (ps_if (pt_cmpR op_eq (pv 0) pe_int (nomark _)) (pss_one (ps_expr (pe_callS (okx_nth T) (hr.mono (by decide)) (by rfl) T.f_nth.g T.f_nth.F.kp T.f_nth.b (fun σ => passAt tk σ) (pa_cons (pv 1) (pa_cons (pv 2) (pa_cons (pv 3) pa_nil)))))) (pss_one (ps_if (pt_cmpR op_eq (pv 0) pe_int (nomark _)) (pss_one (ps_expr (pe_callS (okx_first_unlike T) (hr.mono (by decide)) (by rfl) T.f_first_unlike.g T.f_first_unlike.F.kp T.f_first_unlike.b (fun σ => passAt tk σ) (pa_cons (pv 1) (pa_cons (pv 2) pa_nil))))) (pss_one (ps_expr (pe_callS (okx_first_unlike T) (hr.mono (by decide)) (by rfl) T.f_first_unlike.g T.f_first_unlike.F.kp T.f_first_unlike.b (fun σ => passAt tk σ) (pa_cons (pv 2) (pa_cons (pv 1) pa_nil))))))))))))))))
      (fun a oe cls d pn hz hf => by exact (pss_one (ps_set (i := 4) sc__law_asked.nd rfl (.inl rfl) (pv 5)))))
      (pss_one (ps_ret (pe_ifExp (pt_cmpR op_isN (pv 4) pe_non (nomark _)) pe_str (pe_call (ok__law_which T) (hr.mono (by decide)) (by rfl) T.f__law_which.g T.f__law_which.F.kp T.f__law_which.b .nil pass0 (pa_cons (pv 4) pa_nil))))))), ?_⟩
  walk_at "rd"
  have nr : ∀ a : Addr, V.bl (decide (V.ref a = V.non)) = V.bl false := fun a => by rw [decide_eq_false (fun z => by cases z)]
  rcases q with ⟨D, n, hd, q⟩ | ⟨hf, q⟩
  · have fin : ∀ (hw : whichOf T D n) {H1 : Hp} {a : Addr}, Same H H1 → H1 a = none → spWhich T [.ref a] (upd H1 a (ExB (.ref D) none a)) Q E0 := fun hw H1 a s1 na => ⟨a, D, n, rfl, upd_same, hw, fun H2 s2 => q _ ((s1.trans (same_upd na)).trans s2)⟩
    cases hd
    case letter0 h1 =>
      refine ⟨_, rfl, rfl, _, rfl, iteY (by decide) ⟨_, rfl, _, rfl, .inr ⟨v, d, u, e, rfl, hv, hu, .inl ⟨h1, fun H1 s1 => ?_⟩⟩⟩⟩
      exact keep_to (exm_of T.x_KeysError T.s_NoText_KeysError) rfl fun a na => ⟨_, rfl, rfl, false, nr a, iteF ⟨_, rfl, fin (.inl ⟨rfl, rfl⟩) s1 na⟩⟩
    case letter1 h1 h2 =>
      refine ⟨_, rfl, rfl, _, rfl, iteY (by decide) ⟨_, rfl, _, rfl, .inr ⟨v, d, u, e, rfl, hv, hu, .inr ⟨h1, h2, fun H1 s1 => ?_⟩⟩⟩⟩
      exact keep_to (exm_of T.x_KeysError T.s_NoPlace_KeysError) rfl fun a na => ⟨_, rfl, rfl, false, nr a, iteF ⟨_, rfl, fin (.inr (.inl ⟨rfl, rfl⟩)) s1 na⟩⟩
    case looks0 h1 =>
      refine ⟨_, rfl, rfl, _, rfl, iteN (by decide) ⟨_, rfl, rfl, _, rfl, iteY (by decide) ⟨_, rfl, _, rfl, _, rfl, .inr ⟨v, d, u, e, o, r, rfl, hv, hu, ho, .inl ⟨h1, fun H1 s1 => ?_⟩⟩⟩⟩⟩
      exact keep_to (exm_of T.x_KeysError T.s_NoText_KeysError) rfl fun a na => ⟨_, rfl, rfl, false, nr a, iteF ⟨_, rfl, fin (.inl ⟨rfl, rfl⟩) s1 na⟩⟩
    case looks1 h1 h2 =>
      refine ⟨_, rfl, rfl, _, rfl, iteN (by decide) ⟨_, rfl, rfl, _, rfl, iteY (by decide) ⟨_, rfl, _, rfl, _, rfl, .inr ⟨v, d, u, e, o, r, rfl, hv, hu, ho, .inr (.inl ⟨h1, h2, fun H1 s1 => ?_⟩)⟩⟩⟩⟩
      exact keep_to (exm_of T.x_KeysError T.s_NoPlace_KeysError) rfl fun a na => ⟨_, rfl, rfl, false, nr a, iteF ⟨_, rfl, fin (.inr (.inl ⟨rfl, rfl⟩)) s1 na⟩⟩
    case looks2 h1 h2 h3 =>
      refine ⟨_, rfl, rfl, _, rfl, iteN (by decide) ⟨_, rfl, rfl, _, rfl, iteY (by decide) ⟨_, rfl, _, rfl, _, rfl, .inr ⟨v, d, u, e, o, r, rfl, hv, hu, ho, .inr (.inr ⟨h1, h2, h3, fun H1 s1 => ?_⟩)⟩⟩⟩⟩
      exact keep_to (exm_of T.x_KeysError T.s_NoNumber_KeysError) rfl fun a na => ⟨_, rfl, rfl, false, nr a, iteF ⟨_, rfl, fin (.inr (.inr (.inl ⟨rfl, rfl⟩))) s1 na⟩⟩
    case count0 h1 =>
      refine ⟨_, rfl, rfl, _, rfl, iteN (by decide) ⟨_, rfl, rfl, _, rfl, iteN (by decide) ⟨_, rfl, rfl, _, rfl, iteY (by decide) ⟨_, rfl, _, rfl, _, rfl, .inr ⟨v, d, u, e, o, r, rfl, hv, hu, ho, .inl ⟨h1, fun H1 s1 => ?_⟩⟩⟩⟩⟩⟩
      exact keep_to (exm_of T.x_KeysError T.s_NoText_KeysError) rfl fun a na => ⟨_, rfl, rfl, false, nr a, iteF ⟨_, rfl, fin (.inl ⟨rfl, rfl⟩) s1 na⟩⟩
    case count1 h1 h2 =>
      refine ⟨_, rfl, rfl, _, rfl, iteN (by decide) ⟨_, rfl, rfl, _, rfl, iteN (by decide) ⟨_, rfl, rfl, _, rfl, iteY (by decide) ⟨_, rfl, _, rfl, _, rfl, .inr ⟨v, d, u, e, o, r, rfl, hv, hu, ho, .inr (.inl ⟨h1, h2, fun H1 s1 => ?_⟩)⟩⟩⟩⟩⟩
      exact keep_to (exm_of T.x_KeysError T.s_NoLetter_KeysError) rfl fun a na => ⟨_, rfl, rfl, false, nr a, iteF ⟨_, rfl, fin (.inr (.inr (.inr ⟨rfl, rfl⟩))) s1 na⟩⟩
    case count2 h1 h2 h3 =>
      refine ⟨_, rfl, rfl, _, rfl, iteN (by decide) ⟨_, rfl, rfl, _, rfl, iteN (by decide) ⟨_, rfl, rfl, _, rfl, iteY (by decide) ⟨_, rfl, _, rfl, _, rfl, .inr ⟨v, d, u, e, o, r, rfl, hv, hu, ho, .inr (.inr ⟨h1, h2, h3, fun H1 s1 => ?_⟩)⟩⟩⟩⟩⟩
      exact keep_to (exm_of T.x_KeysError T.s_NoNumber_KeysError) rfl fun a na => ⟨_, rfl, rfl, false, nr a, iteF ⟨_, rfl, fin (.inr (.inr (.inl ⟨rfl, rfl⟩))) s1 na⟩⟩
    case nth0 h1 =>
      refine ⟨_, rfl, rfl, _, rfl, iteN (by decide) ⟨_, rfl, rfl, _, rfl, iteN (by decide) ⟨_, rfl, rfl, _, rfl, iteN (by decide) ⟨_, rfl, rfl, _, rfl, iteY (by decide) ⟨_, rfl, _, rfl, _, rfl, .inr ⟨v, d, u, e, o, r, rfl, hv, hu, ho, .inl ⟨h1, fun H1 s1 => ?_⟩⟩⟩⟩⟩⟩⟩
      exact keep_to (exm_of T.x_KeysError T.s_NoText_KeysError) rfl fun a na => ⟨_, rfl, rfl, false, nr a, iteF ⟨_, rfl, fin (.inl ⟨rfl, rfl⟩) s1 na⟩⟩
    case nth1 h1 h2 =>
      refine ⟨_, rfl, rfl, _, rfl, iteN (by decide) ⟨_, rfl, rfl, _, rfl, iteN (by decide) ⟨_, rfl, rfl, _, rfl, iteN (by decide) ⟨_, rfl, rfl, _, rfl, iteY (by decide) ⟨_, rfl, _, rfl, _, rfl, .inr ⟨v, d, u, e, o, r, rfl, hv, hu, ho, .inr (.inl ⟨h1, h2, fun H1 s1 => ?_⟩)⟩⟩⟩⟩⟩⟩
      exact keep_to (exm_of T.x_KeysError T.s_NoLetter_KeysError) rfl fun a na => ⟨_, rfl, rfl, false, nr a, iteF ⟨_, rfl, fin (.inr (.inr (.inr ⟨rfl, rfl⟩))) s1 na⟩⟩
    case nth2 h1 h2 h3 =>
      refine ⟨_, rfl, rfl, _, rfl, iteN (by decide) ⟨_, rfl, rfl, _, rfl, iteN (by decide) ⟨_, rfl, rfl, _, rfl, iteN (by decide) ⟨_, rfl, rfl, _, rfl, iteY (by decide) ⟨_, rfl, _, rfl, _, rfl, .inr ⟨v, d, u, e, o, r, rfl, hv, hu, ho, .inr (.inr ⟨h1, h2, h3, fun H1 s1 => ?_⟩)⟩⟩⟩⟩⟩⟩
      exact keep_to (exm_of T.x_KeysError T.s_NoNumber_KeysError) rfl fun a na => ⟨_, rfl, rfl, false, nr a, iteF ⟨_, rfl, fin (.inr (.inr (.inl ⟨rfl, rfl⟩))) s1 na⟩⟩
    case un4 h1 =>
      refine ⟨_, rfl, rfl, _, rfl, iteN (by decide) ⟨_, rfl, rfl, _, rfl, iteN (by decide) ⟨_, rfl, rfl, _, rfl, iteN (by decide) ⟨_, rfl, rfl, _, rfl, iteN (by decide) ⟨_, rfl, rfl, _, rfl, iteY (by decide) ⟨_, rfl, _, rfl, .inr ⟨v, d, u, e, rfl, hv, hu, h1, fun H1 s1 => ?_⟩⟩⟩⟩⟩⟩⟩
      exact keep_to (exm_of T.x_KeysError T.s_NoText_KeysError) rfl fun a na => ⟨_, rfl, rfl, false, nr a, iteF ⟨_, rfl, fin (.inl ⟨rfl, rfl⟩) s1 na⟩⟩
    case un5 h1 =>
      refine ⟨_, rfl, rfl, _, rfl, iteN (by decide) ⟨_, rfl, rfl, _, rfl, iteN (by decide) ⟨_, rfl, rfl, _, rfl, iteN (by decide) ⟨_, rfl, rfl, _, rfl, iteN (by decide) ⟨_, rfl, rfl, _, rfl, iteN (by decide) ⟨_, rfl, _, rfl, .inr ⟨u, e, v, d, rfl, hu, hv, h1.symm, fun H1 s1 => ?_⟩⟩⟩⟩⟩⟩⟩
      exact keep_to (exm_of T.x_KeysError T.s_NoText_KeysError) rfl fun a na => ⟨_, rfl, rfl, false, nr a, iteF ⟨_, rfl, fin (.inl ⟨rfl, rfl⟩) s1 na⟩⟩
  · cases hf
    case letter place c h1 h2 =>
      unfold At at hu
      subst hu
      exact ⟨_, rfl, rfl, _, rfl, iteY (by decide) ⟨_, rfl, _, rfl, .inl ⟨v, d, place, c, rfl, hv, h1, h2, fun H1 s1 => ⟨_, rfl, rfl, true, rfl, iteT (q _ s1)⟩⟩⟩⟩
    case looks place many h3 h1 h2 =>
      unfold At at hu ho
      subst hu ho
      exact ⟨_, rfl, rfl, _, rfl, iteN (by decide) ⟨_, rfl, rfl, _, rfl, iteY (by decide) ⟨_, rfl, _, rfl, _, rfl, .inl ⟨v, d, place, many, rfl, hv, h1, h2, h3, fun H1 s1 => ⟨_, rfl, rfl, true, rfl, iteT (q _ s1)⟩⟩⟩⟩⟩
    case count c many h2 h1 h3 =>
      unfold At at hu ho
      obtain ⟨rfl, _⟩ := hu
      subst ho
      exact ⟨_, rfl, rfl, _, rfl, iteN (by decide) ⟨_, rfl, rfl, _, rfl, iteN (by decide) ⟨_, rfl, rfl, _, rfl, iteY (by decide) ⟨_, rfl, _, rfl, _, rfl, .inl ⟨v, d, c, many, rfl, hv, h1, h2, h3, fun H1 s1 => ⟨_, rfl, rfl, true, rfl, iteT (q _ s1)⟩⟩⟩⟩⟩⟩
    case nth c k h2 h1 =>
      unfold At at hu ho
      obtain ⟨rfl, _⟩ := hu
      subst ho
      exact ⟨_, rfl, rfl, _, rfl, iteN (by decide) ⟨_, rfl, rfl, _, rfl, iteN (by decide) ⟨_, rfl, rfl, _, rfl, iteN (by decide) ⟨_, rfl, rfl, _, rfl, iteY (by decide) ⟨_, rfl, _, rfl, _, rfl, .inl ⟨v, d, c, k, rfl, hv, h1, h2, fun H1 i s1 _ => ⟨_, rfl, rfl, true, rfl, iteT (q _ s1)⟩, fun H1 s1 _ => ⟨_, rfl, rfl, true, rfl, iteT (q _ s1)⟩⟩⟩⟩⟩⟩⟩
    case un h1 h2 =>
      exact ⟨_, rfl, rfl, _, rfl, iteN (by decide) ⟨_, rfl, rfl, _, rfl, iteN (by decide) ⟨_, rfl, rfl, _, rfl, iteN (by decide) ⟨_, rfl, rfl, _, rfl, iteN (by decide) ⟨_, rfl, rfl, _, rfl, iteY (by decide) ⟨_, rfl, _, rfl, .inl ⟨v, u, d, e, rfl, hv, hu, h1, h2, fun H1 n s1 _ => ⟨_, rfl, rfl, true, rfl, iteT (q _ s1)⟩, fun H1 s1 _ => ⟨_, rfl, rfl, true, rfl, iteT (q _ s1)⟩⟩⟩⟩⟩⟩⟩⟩

/-! ## small things -/
mutual
def fitB : Dt → Bool
  | .non => true
  | .bl _ => true
  | .int i => decide (i.natAbs < 10 ^ 47)
  | .str w => w.all fun c => decide (c < 4294967296)
  | .lst ds => fitBs ds
  | .tup ds => fitBs ds
  | .dic => true
def fitBs : List Dt → Bool
  | [] => true
  | d :: ds => fitB d && fitBs ds
end
mutual
theorem fitB_of : ∀ d : Dt, fitB d = true → FitD d
  | .non, _ => by unfold FitD; trivial
  | .bl _, _ => by unfold FitD; trivial
  | .int i, h => by unfold fitB at h; unfold FitD; exact of_decide_eq_true h
  | .str w, h => by unfold fitB at h; unfold FitD; exact fun c hc => of_decide_eq_true (List.all_eq_true.mp h c hc)
  | .lst ds, h => by unfold fitB at h; unfold FitD; exact fitBs_of ds h
  | .tup ds, h => by unfold fitB at h; unfold FitD; exact fitBs_of ds h
  | .dic, _ => by unfold FitD; trivial
theorem fitBs_of : ∀ ds : List Dt, fitBs ds = true → FitDs ds
  | [], _ => by unfold FitDs; trivial
  | d :: ds, h => by
    unfold fitBs at h
    rw [Bool.and_eq_true] at h
    unfold FitDs
    exact ⟨fitB_of d h.1, fitBs_of ds h.2⟩
end
theorem all_at {α : Type} {f : α → Bool} {l : List α} {i : Nat} {x : α} (h : l.all f = true) (e : l[i]? = some x) : f x = true := List.all_eq_true.mp h x (List.mem_of_getElem? e)
theorem las_lt {K : PySem.W.Frag} {H : Hp} {vs : List V} {ds : List Dt} {j n : Nat} (h : Ats K H vs ds) (hj : j < n) (hn : ds.length = n) : ∃ d v, ds[j]? = some d ∧ vs[j]? = some v ∧ At K H v d := by
  have hd : ds[j]? = some (ds[j]'(by omega)) := List.getElem?_eq_getElem _
  obtain ⟨v, hv, a⟩ := h.get hd
  exact ⟨_, v, hd, hv, a⟩
/-- short, and shown shortly -/
def Tiny (d : Dt) : Bool := fitB d && decide (deep d ≤ 5) && decide (bulk d ≤ 1000)
theorem Tiny.fit {d : Dt} (h : Tiny d = true) : FitD d ∧ deep d ≤ 5 ∧ bulk d ≤ 1000 := by
  unfold Tiny at h
  simp only [Bool.and_eq_true, decide_eq_true_eq] at h
  exact ⟨fitB_of d h.1.1, h.1.2, h.2⟩
theorem deepAll_app : ∀ (A B : List Dt), deepAll (A ++ B) = max (deepAll A) (deepAll B)
  | [], B => by rw [List.nil_append]; simp only [deepAll]; omega
  | a :: A, B => by
    rw [List.cons_append]
    simp only [deepAll, deepAll_app A B]
    omega
theorem bulkAll_app : ∀ (A B : List Dt), bulkAll (A ++ B) = bulkAll A + bulkAll B
  | [], B => by rw [List.nil_append]; simp only [bulkAll]; omega
  | a :: A, B => by
    rw [List.cons_append]
    simp only [bulkAll, bulkAll_app A B]
    omega
theorem fitDs_app {A B : List Dt} (h : FitDs A) (k : FitDs B) : FitDs (A ++ B) := fitDs_of fun d hd => (List.mem_append.mp hd).elim (fun z => fitDs_mem h z) fun z => fitDs_mem k z
theorem fitDs_sub {A B : List Dt} (h : FitDs B) (k : ∀ d ∈ A, d ∈ B) : FitDs A := fitDs_of fun d hd => fitDs_mem h (k d hd)
/-- a short list with a small thing put in -/
theorem neat_put {A B ds : List Dt} {d : Dt} (hs : ds = A ++ B) (h : NeatD (.lst ds)) (hd : deep (.lst ds) ≤ 10) (hb : bulk (.lst ds) ≤ 5000) (ht : Tiny d = true) : NeatD (.lst (A ++ [d] ++ B)) ∧ deep (.lst (A ++ [d] ++ B)) ≤ 10 ∧ bulk (.lst (A ++ [d] ++ B)) ≤ 7000 := by
  obtain ⟨t1, t2, t3⟩ := Tiny.fit ht
  have h1 : FitDs ds := by have := h.1; unfold FitD at this; exact this
  simp only [deep, hs, deepAll_app] at hd
  simp only [bulk, hs, bulkAll_app] at hb
  have e1 : deep (.lst (A ++ [d] ++ B)) ≤ 10 := by simp only [deep, deepAll_app, deepAll]; omega
  have e2 : bulk (.lst (A ++ [d] ++ B)) ≤ 7000 := by simp only [bulk, bulkAll_app, bulkAll]; omega
  refine ⟨⟨?_, by omega, by omega⟩, e1, e2⟩
  unfold FitD
  refine fitDs_app (fitDs_app (fitDs_sub h1 fun x hx => by rw [hs]; exact List.mem_append_left _ hx) ?_) (fitDs_sub h1 fun x hx => by rw [hs]; exact List.mem_append_right _ hx)
  unfold FitDs FitDs
  exact ⟨t1, trivial⟩
theorem cut_to {xs : List V} {n : Nat} (hn : n ≤ xs.length) : cutV xs none (some (n : Int)) = xs.take n ∧ cutV xs (some (n : Int)) none = xs.drop n := by
  have e : HT.sIx xs.length xs.length (some (n : Int)) = n ∧ HT.sIx xs.length 0 (some (n : Int)) = n := ⟨(HT.sIx_nat xs.length xs.length n).trans (by omega), (HT.sIx_nat xs.length 0 n).trans (by omega)⟩
  have e2 : HT.sIx xs.length 0 none = 0 := rfl
  have e3 : HT.sIx xs.length xs.length none = xs.length := rfl
  constructor
  · unfold cutV
    rw [e.1, e2, List.drop_zero, Nat.sub_zero]
  · unfold cutV
    rw [e.2, e3, List.take_of_length_le (by rw [List.length_drop]; omega)]

/-! ## lists and tuples, mixed within -/
theorem iteE {c : Bool} {A B : Prop} (h1 : c = true → A) (h2 : c = false → B) : if c = true then A else B := by
  cases c with
  | true => exact iteT (h1 rfl)
  | false => exact iteF (h2 rfl)
theorem norm_row {d : Dt} (h : isRow d = true) : norm d = .lst (d.items.map norm) := by
  cases d with
  | lst ds => simp only [norm, Dt.items, normAll_map]
  | tup ds => simp only [norm, Dt.items, normAll_map]
  | _ => cases h
def spLists (n : Nat) (K : PySem.W.Frag) : Sp := fun vs H Q _ => ∃ v d, vs = [v] ∧ At K H v d ∧ deep d < n ∧ Fits d ∧ bulk d ≤ 300000 ∧
  ∀ H' u fp, Same H H' → AtF H' u (norm d) fp → fp.Nodup → (∀ b ∈ fp, H b = none) → Q u H'
def spHanded (K : PySem.W.Frag) : Sp := fun vs H Q _ => ∃ p v d, vs = [.ref p, v] ∧ Spr H p ∧ At K (hid p H) v d ∧ isRow d = true ∧ deep d ≤ 2 ∧ Fits d ∧ bulk d ≤ 300000 ∧
  ∀ H' u e, Go p H H' → At K (hid p H') u e → norm e = norm d → Q u H'
theorem Go.hid {p : Addr} {H H' : Hp} (g : Go p H H') : Same (hid p H) (hid p H') := fun b o h => by
  obtain ⟨h1, h2⟩ := hid_at h
  rw [hid_ne h1]
  exact g.keep b o h1 h2
theorem Spr.some {p : Addr} {H : Hp} (h : Spr H p) : H p ≠ none := by
  obtain ⟨F, S, C, h, _⟩ := h
  rw [h]
  exact nofun
theorem hid_fresh {p : Addr} {H H' : Hp} (h : Spr H p) {v : V} {d : Dt} {fp : List Addr} (hv : AtF H' v d fp) (hf : ∀ b ∈ fp, H b = none) : AtF (hid p H') v d fp :=
  AtF.same _ _ _ hv fun b o hb e => by
    rw [hid_ne (fun z => h.some (by rw [← z]; exact hf b hb))]
    exact e

/-! ## what is refused -/
/-! ## things that are no texts -/
def badPiece (d : Dt) : Bool := !isPiece d || decide ((10 : Int) ^ 30 < pieceSize d)
theorem size_pos {d : Dt} (h : isPiece d = true) : 0 ≤ pieceSize d := by
  obtain ⟨w, n, e, _, hw, hn⟩ := isPiece_of h
  unfold pieceSize
  rw [e]
  exact Int.mul_nonneg (by omega) (by omega)
theorem sum_pos : ∀ {ds : List Dt}, (∀ d ∈ ds, isPiece d = true) → 0 ≤ (ds.map pieceSize).sum
  | [], _ => by simp
  | d :: ds, h => by
    rw [List.map_cons, List.sum_cons]
    exact Int.add_nonneg (size_pos (h d (List.mem_cons_self ..))) (sum_pos fun x hx => h x (List.mem_cons_of_mem _ hx))
theorem noText_of {A B : List Dt} {d : Dt} (hd : badPiece d = true) (hA : ∀ x ∈ A, isPiece x = true) (hB : ∀ x ∈ B, isPiece x = true) : isText (.lst (A ++ [d] ++ B)) = false := by
  unfold isText
  cases hp : isPiece d with
  | false =>
    have : ((Dt.lst (A ++ [d] ++ B)).items.all isPiece) = false := by
      rw [List.all_eq_false]
      exact ⟨d, by show d ∈ A ++ [d] ++ B; simp, by rw [hp]; exact Bool.false_ne_true⟩
    rw [this, Bool.and_false, Bool.false_and]
  | true =>
    unfold badPiece at hd
    rw [hp] at hd
    have h2 : (10 : Int) ^ 30 < pieceSize d := by simpa using hd
    have h3 : ¬ ((Dt.lst (A ++ [d] ++ B)).items.map pieceSize).sum ≤ 10 ^ 30 := by
      show ¬ ((A ++ [d] ++ B).map pieceSize).sum ≤ 10 ^ 30
      rw [List.map_append, List.map_append, List.sum_append, List.sum_append, List.map_cons, List.map_nil, List.sum_cons, List.sum_nil]
      have := sum_pos hA
      have := sum_pos hB
      omega
    rw [decide_eq_false h3, Bool.and_false]
def spNoText (K : PySem.W.Frag) : Sp := fun vs H Q _ => ∃ (p a : Addr) (xs : List V) (ds : List Dt), vs = [.ref p, .ref a] ∧ Spr H p ∧ a ≠ p ∧ H a = some (.lst xs) ∧ Ats K (hid p H) xs ds ∧ (∀ d ∈ ds, isPiece d = true) ∧ NeatD (.lst ds) ∧ deep (.lst ds) ≤ 10 ∧ bulk (.lst ds) ≤ 5000 ∧
  ∀ H' v d, Go p H H' → At K (hid p H') v d → isText d = false → NeatD d → deep d ≤ 10 → bulk d ≤ 7000 → Q v H'
theorem ok__law_no_text (T : Txt K mg) : FnOk P w K mg base CX0 2 T.f__law_no_text.f T.f__law_no_text.fd ["spring", "text"] (spNoText K) := by
  refine T.f__law_no_text.F.ok sc__law_no_text (fun vs H Q E h => ?_) (fun cdv A outer s H vs Q E hr h => ?_)
  · obtain ⟨p, a, xs, ds, rfl, _⟩ := h
    rfl
  obtain ⟨p, a, xs, ds, rfl, hp, hap, ha, hxs, hpc, hne, hdp, hbk, q⟩ := h
  have hxl := Ats.len hxs
  have hdl := len_bulk (.lst ds)
  have hdl : ds.length ≤ 5000 := by
    have : (Dt.lst ds).items.length = ds.length := rfl
    omega
  refine ⟨_, (pss_cons (ps_set (i := 2) sc__law_no_text.nd rfl (.inl rfl) (pe_call (ok__law_draw T) (hr.mono (by decide)) (by rfl) T.f__law_draw.g T.f__law_draw.F.kp T.f__law_draw.b .nil pass0 (pa_cons (pv 0) (pa_cons (pe_op op_add (pe_callB (call_lenK K) (by rfl) T.b_len (by decide +kernel) (pa_cons (pv 1) pa_nil)) pe_int) pa_nil))))
      (pss_cons (ps_set (i := 3) sc__law_no_text.nd rfl (.inl rfl) (pe_lst (lits_cons (lit_tup (lits_cons (lit_str [] (by decide +kernel) (by decide)) (lits_cons lit_int lits_nil)) (by show _ ≤ sizeLine; decide)) (lits_cons (lit_tup (lits_cons (lit_mulS 61 (by rfl) [97] (List.replicate 61 97) (by decide +kernel) (by decide +kernel) (by decide)) (lits_cons lit_int lits_nil)) (by show _ ≤ sizeLine; decide)) (lits_cons (lit_tup (lits_cons (lit_str [65] (by decide +kernel) (by decide)) (lits_cons lit_int lits_nil)) (by show _ ≤ sizeLine; decide)) (lits_cons (lit_tup (lits_cons (lit_str [97, 32, 98] (by decide +kernel) (by decide)) (lits_cons lit_int lits_nil)) (by show _ ≤ sizeLine; decide)) (lits_cons (lit_tup (lits_cons (lit_str [97] (by decide +kernel) (by decide)) (lits_cons lit_int lits_nil)) (by show _ ≤ sizeLine; decide)) (lits_cons (lit_tup (lits_cons (lit_str [97] (by decide +kernel) (by decide)) (lits_cons lit_neg lits_nil)) (by show _ ≤ sizeLine; decide)) (lits_cons (lit_tup (lits_cons (lit_str [97] (by decide +kernel) (by decide)) (lits_cons lit_bl lits_nil)) (by show _ ≤ sizeLine; decide)) (lits_cons (lit_tup (lits_cons (lit_str [97] (by decide +kernel) (by decide)) (lits_cons lit_non lits_nil)) (by show _ ≤ sizeLine; decide)) (lits_cons (lit_tup (lits_cons (lit_str [97] (by decide +kernel) (by decide)) lits_nil) (by show _ ≤ sizeLine; decide)) lits_nil)))))))))))
      (pss_cons (ps_set (i := 3) sc__law_no_text.nd rfl (.inl rfl) (pe_op op_cat (pv 3) (pe_lst (lits_cons (lit_tup (lits_cons (lit_str [97] (by decide +kernel) (by decide)) (lits_cons lit_int (lits_cons lit_int lits_nil))) (by show _ ≤ sizeLine; decide)) (lits_cons (lit_tup (lits_cons lit_int (lits_cons (lit_str [97] (by decide +kernel) (by decide)) lits_nil)) (by show _ ≤ sizeLine; decide)) (lits_cons lit_non (lits_cons (lit_str [97] (by decide +kernel) (by decide)) (lits_cons (lit_tup (lits_cons (lit_str [97] (by decide +kernel) (by decide)) (lits_cons (lit_str [49] (by decide +kernel) (by decide)) lits_nil)) (by show _ ≤ sizeLine; decide)) (lits_cons lit_dic (lits_cons (lit_lst lits_nil (by show _ ≤ sizeLine; decide)) (lits_cons (lit_tup (lits_cons (lit_str [97] (by decide +kernel) (by decide)) (lits_cons (lit_add (lit_pow (a := 10) (b := 30) (by decide) (by rfl) (by rfl)) lit_int (by decide)) lits_nil)) (by show _ ≤ sizeLine; decide)) (lits_cons (lit_tup (lits_cons lit_non (lits_cons lit_int lits_nil)) (by show _ ≤ sizeLine; decide)) lits_nil))))))))))))
      (pss_cons (ps_set (i := 4) sc__law_no_text.nd rfl (.inl rfl) (pe_lst (lits_cons lit_non (lits_cons lit_int (lits_cons (lit_str [97, 98] (by decide +kernel) (by decide)) (lits_cons lit_dic (lits_cons lit_bl (lits_cons (lit_mulL 41 (by rfl) (lit_tup (lits_cons (lit_str [97] (by decide +kernel) (by decide)) (lits_cons lit_int lits_nil)) (by show _ ≤ sizeLine; decide)) (by decide)) (lits_cons (lit_lst (lits_cons (lit_tup (lits_cons (lit_str [97, 98] (by decide +kernel) (by decide)) (lits_cons (lit_pow (a := 10) (b := 30) (by decide) (by rfl) (by rfl)) lits_nil)) (by show _ ≤ sizeLine; decide)) lits_nil) (by show _ ≤ sizeLine; decide)) (lits_cons (lit_lst (lits_cons (lit_tup (lits_cons (lit_str [97] (by decide +kernel) (by decide)) (lits_cons (lit_pow (a := 10) (b := 30) (by decide) (by rfl) (by rfl)) lits_nil)) (by show _ ≤ sizeLine; decide)) (lits_cons (lit_tup (lits_cons (lit_str [97] (by decide +kernel) (by decide)) (lits_cons lit_int lits_nil)) (by show _ ≤ sizeLine; decide)) lits_nil)) (by show _ ≤ sizeLine; decide)) lits_nil))))))))))
      (pss_cons (ps_if (pt_cmpR op_eq (pe_call (ok__law_draw T) (hr.mono (by decide)) (by rfl) T.f__law_draw.g T.f__law_draw.F.kp T.f__law_draw.b .nil pass0 (pa_cons (pv 0) (pa_cons pe_int pa_nil))) pe_int (nomark _)) (pss_one (ps_ret (pe_ix ix_seq (pv 4) (pe_call (ok__law_draw T) (hr.mono (by decide)) (by rfl) T.f__law_draw.g T.f__law_draw.F.kp T.f__law_draw.b .nil pass0 (pa_cons (pv 0) (pa_cons pe_int pa_nil))) (fun _ _ => rfl)))) pss_nil)
      (pss_one (ps_ret (pe_op op_cat (pe_op op_cat (pe_slice sl_list (pv 1) po_none (po_some (pv 2))) (pe_lst (pa_cons (pe_ix ix_seq (pv 3) (pe_call (ok__law_draw T) (hr.mono (by decide)) (by rfl) T.f__law_draw.g T.f__law_draw.F.kp T.f__law_draw.b .nil pass0 (pa_cons (pv 0) (pa_cons pe_int pa_nil))) (fun _ _ => rfl)) pa_nil))) (pe_slice sl_list (pv 1) (po_some (pv 2)) po_none))))))))), ?_⟩
  walk_at "rd"
  refine ⟨_, rfl, _, rfl, len_row (.inl (SqL.of ha)) ⟨_, _, rfl, rfl, p, _, rfl, hp, by omega, small300 (by omega) (by omega), fun H1 r g1 r0 r1 => ?_⟩⟩
  obtain ⟨n, rfl⟩ := Int.eq_ofNat_of_zero_le r0
  have hnl : n ≤ xs.length := by omega
  have hxs1 := Ats.same g1.hid _ _ hxs
  have ha1 := g1.keep _ _ hap ha
  obtain ⟨sF, sS, sC, hps, _⟩ := id g1.spr
  -- some
  intro H2 us1 s2 hus1
  refine ⟨by rw [Ats.len hus1]; show 9 ≤ sizeLine; decide, fun a1 na1 => ⟨_, rfl, ?_⟩⟩
  intro H3 us2 s3 hus2
  have k1 := s3 _ _ (upd_same (H := H2) (a := a1) (o := .lst us1))
  have s23 := (s2.trans (same_upd (o := .lst us1) na1)).trans s3
  have hus1 := Ats.same (since_mono ((same_upd (o := .lst us1) na1).trans s3)) _ _ hus1
  have hus2 := Ats.same (since_left (s2.trans (same_upd (o := .lst us1) na1))) _ _ hus2
  refine ⟨by rw [Ats.len hus2]; show 9 ≤ sizeLine; decide, fun a2 na2 => ⟨a1, a2, us1, us2, rfl, rfl, same_upd na2 _ _ k1, upd_same, ?_, fun a3 na3 => ?_⟩⟩
  · rw [Ats.len hus1, Ats.len hus2]
    show 18 ≤ sizeLine
    decide
  have s34 := (same_upd (o := .lst us2) na2).trans (same_upd (o := .lst (us1 ++ us2)) na3)
  have s13 := s23.trans s34
  have hsome := las_app (Ats.same (since_mono s34) _ _ hus1) (Ats.same (since_mono s34) _ _ hus2)
  have k3 := upd_same (H := upd H3 a2 (.lst us2)) (a := a3) (o := .lst (us1 ++ us2))
  have g3 := g1.same s13
  have na3 : H1 a3 = none := (s23.trans (same_upd (o := .lst us2) na2)).free na3
  generalize upd (upd H3 a2 (.lst us2)) a3 (.lst (us1 ++ us2)) = H4 at *
  clear hus1 hus2 k1
  -- wrong
  intro H5 us4 s5 hus4
  refine ⟨by rw [Ats.len hus4]; show 8 ≤ sizeLine; decide, fun a4 na4 => ?_⟩
  have s6 := s5.trans (same_upd (o := .lst us4) na4)
  have k3 := s6 _ _ k3
  have hsome := Ats.same (since_hid hps) _ _ (Ats.same (since_mono s6) _ _ hsome)
  have hus4 := Ats.same (since_hid hps) _ _ (Ats.same (since_mono (same_upd (o := .lst us4) na4)) _ _ (Ats.same (since_left s13) _ _ hus4))
  have k4 := upd_same (H := H5) (a := a4) (o := .lst us4)
  have g16 := Go.of_same g1.spr (s13.trans s6)
  have ha3p : a3 ≠ p := g1.spr.ne na3
  have ha4p : a4 ≠ p := (g3.same s5).spr.ne na4
  have ha6 := g16.keep _ _ hap ha1
  have hxs6 := Ats.same g16.hid _ _ hxs1
  have g6 := g1.trans g16
  generalize upd H5 a4 (.lst us4) = H6 at *
  refine ⟨_, rfl, p, 3, rfl, g6.spr, by decide, by decide, fun H7 r2 g7 r20 r23 => ⟨rfl, _, rfl, ite2 (fun _ => ?_) (fun _ => ?_)⟩⟩
  · have k4' := g7.keep _ _ ha4p k4
    refine ⟨_, rfl, _, rfl, p, 8, rfl, g7.spr, by decide, by decide, fun H8 r3 g8 r30 r38 => ?_⟩
    obtain ⟨j, rfl⟩ := Int.eq_ofNat_of_zero_le r30
    have hw := Ats.same (g7.trans g8).hid _ _ hus4
    obtain ⟨d, v, hd, hv, hvd⟩ := las_lt hw (show j < 8 by omega) rfl
    have := all_at (f := fun d => !isText d && Tiny d) (by decide +kernel) hd
    simp only [Bool.and_eq_true, Bool.not_eq_true'] at this
    obtain ⟨t1, t2, t3⟩ := Tiny.fit this.2
    exact ix_lst (g8.keep _ _ ha4p k4') (at_ofA (j := j) rfl hv) (q _ _ _ ((g6.trans g7).trans g8) hvd this.1 ⟨t1, by omega, by omega⟩ (by omega) (by omega))
  · have ha7 := g7.keep _ _ hap ha6
    have k3' := g7.keep _ _ ha3p k3
    refine ⟨_, rfl, _, rfl, _, rfl, a, xs, rfl, SqL.of ha7, fun b nb => ?_⟩
    rw [(cut_to hnl).1]
    have hbp : b ≠ p := g7.spr.ne nb
    have gb := go_new (o := .lst (xs.take n)) g7 nb
    have kb := upd_same (H := H7) (a := b) (o := .lst (xs.take n))
    have ha8 := same_upd (o := .lst (xs.take n)) nb _ _ ha7
    have k3'' := same_upd (o := .lst (xs.take n)) nb _ _ k3'
    generalize upd H7 b (.lst (xs.take n)) = H8 at *
    refine ⟨_, rfl, _, rfl, p, 18, rfl, gb.spr, by decide, by decide, fun H9 r3 g9 r30 r318 => ?_⟩
    obtain ⟨j, rfl⟩ := Int.eq_ofNat_of_zero_le r30
    have g69 := gb.trans g9
    have hw := Ats.same g69.hid _ _ hsome
    obtain ⟨d, v, hd, hv, hvd⟩ := las_lt hw (show j < 18 by omega) rfl
    have := all_at (f := fun d => badPiece d && Tiny d) (by decide +kernel) hd
    simp only [Bool.and_eq_true] at this
    obtain ⟨n1, n2, n3⟩ := neat_put (A := ds.take n) (B := ds.drop n) (List.take_append_drop n ds).symm hne hdp hbk this.2
    have h9 := g9.keep _ _ hbp kb
    have ha9 := g9.keep _ _ hap ha8
    refine ix_lst (g9.keep _ _ ha3p k3'') (at_ofA (j := j) rfl hv) ⟨by show 1 ≤ sizeLine; decide, fun c1 nc1 => ?_⟩
    have sc1 := same_upd (o := .lst [v]) nc1
    refine ⟨b, c1, _, _, rfl, rfl, sc1 _ _ h9, upd_same, ?_, fun c2 nc2 => ?_⟩
    · exact Nat.le_trans (show (xs.take n).length + [v].length ≤ 100001 by rw [List.length_take, List.length_singleton]; omega) (by decide)
    have sc2 := sc1.trans (same_upd (o := .lst (xs.take n ++ [v])) nc2)
    have kc2 := upd_same (H := upd H9 c1 (.lst [v])) (a := c2) (o := .lst (xs.take n ++ [v]))
    refine ⟨_, rfl, _, rfl, _, rfl, a, xs, rfl, SqL.of (sc2 _ _ ha9), fun c3 nc3 => ?_⟩
    rw [(cut_to hnl).2]
    have sc3 := sc2.trans (same_upd (o := .lst (xs.drop n)) nc3)
    have kc2' := same_upd (o := .lst (xs.drop n)) nc3 _ _ kc2
    refine ⟨c2, c3, _, _, rfl, rfl, kc2', upd_same, ?_, fun c4 nc4 => ?_⟩
    · exact Nat.le_trans (show (xs.take n ++ [v]).length + (xs.drop n).length ≤ 200001 by rw [List.length_append, List.length_take, List.length_singleton, List.length_drop]; omega) (by decide)
    have sc4 := sc3.trans (same_upd (o := .lst (xs.take n ++ [v] ++ xs.drop n)) nc4)
    have g4 := Go.of_same g9.spr sc4
    have hc4p : c4 ≠ p := (Go.of_same g9.spr sc3).spr.ne nc4
    have hall : Ats K (hid p H9) (xs.take n ++ [v] ++ xs.drop n) (ds.take n ++ [d] ++ ds.drop n) := by
      have hx9 := Ats.same g69.hid _ _ hxs6
      exact las_app (las_app (las_take n hx9) (las_cons hvd las_nil)) (las_drop n hx9)
    refine q _ _ _ ((g6.trans g69).trans g4) (la_lst (by rw [hid_ne hc4p]; exact upd_same) (Ats.same g4.hid _ _ hall)) (noText_of this.1 (fun x hx => hpc x (List.mem_of_mem_take hx)) fun x hx => hpc x (List.mem_of_mem_drop hx)) n1 n2 n3

/-! ## drawn texts, near or far -/
theorem TxtL.hd {p : Addr} {H : Hp} {a : Addr} {ps : Pcs} (h : TxtL p H a ps) : TxtL p (hid p H) a ps := by
  obtain ⟨h1, xs, h2, h3⟩ := h
  exact ⟨h1, xs, by rw [hid_ne h1]; exact h2, prd_same (fun v x ⟨b, e1, e2, e3⟩ => ⟨b, e1, e2, by rw [hid_ne e2]; exact e3⟩) h3⟩
/-- its items -/
theorem TxtL.ats {p : Addr} {H : Hp} {a : Addr} {ps : Pcs} {xs : List V} (h : TxtL p H a ps) (hx : H a = some (.lst xs)) (hg : ∀ x ∈ ps, x.1.length ≤ 60) : Ats K (hid p H) xs (dOf ps).items := by
  obtain ⟨_, ys, h2, h3⟩ := h
  rw [hx] at h2
  cases h2
  clear hx
  show Ats K (hid p H) xs (ps.map fun x => Dt.tup [.str x.1, .int (x.2 : Int)])
  induction h3 with
  | nil => exact las_nil
  | @cons v x xs ps hv t ih =>
    rw [List.map_cons]
    obtain ⟨b, rfl, hb, k⟩ := hv
    exact las_cons (la_tup (by rw [hid_ne hb]; exact k) (las_cons (la_str (Nat.le_trans (hg x (List.mem_cons_self ..)) (by decide))) (las_cons la_int las_nil))) (ih fun y hy => hg y (List.mem_cons_of_mem _ hy))
theorem two_at {H : Hp} {c : Addr} {v u : V} {d e : Dt} (hc : H c = some (.lst [v, u])) (hv : At K H v d) (hu : At K H u e) : At K H (.ref c) (.lst [d, e]) := la_lst hc (las_cons hv (las_cons hu las_nil))
theorem okp_size {w t : Int} (hw0 : 0 ≤ w) : ∀ {qs : Pcs}, (∀ x ∈ qs, OkP w t x) → (size qs : Int) ≤ qs.length * (w * t)
  | [], _ => by simp [size]
  | y :: qs, hq => by
    obtain ⟨h1, h2, h3, h4, h5⟩ := hq y (List.mem_cons_self ..)
    have h6 := okp_size hw0 fun x hx => hq x (List.mem_cons_of_mem _ hx)
    have h7 : (y.1.length : Int) * (y.2 : Int) ≤ w * t := Int.mul_le_mul h3 h5 (by omega) hw0
    rw [size_cons, List.length_cons, Int.natCast_add, Int.natCast_mul, Int.natCast_add, Int.add_mul]
    show _ ≤ _ + ((1 : Nat) : Int) * (w * t)
    rw [show ((1 : Nat) : Int) = 1 from rfl, Int.one_mul]
    omega
structure Far (d : Dt) : Prop where
  text : isText d = true
  fits : Fits d
  deep : BK.deep d ≤ 2
  bulk : BK.bulk d ≤ 5000
theorem okp_far {ps : Pcs} {w t : Int} (hl : (ps.length : Int) ≤ 40) (h : ∀ x ∈ ps, OkP w t x) (hw0 : 1 ≤ w) (hw : w ≤ 60) (ht0 : 1 ≤ t) (ht : t ≤ 100000000000000000000000000) : Good ps ∧ Far (dOf ps) := by
  have hz := okp_size (by omega) h
  have h1 : w * t ≤ 60 * 100000000000000000000000000 := Int.mul_le_mul hw ht (by omega) (by omega)
  have h2 : (ps.length : Int) * (w * t) ≤ 40 * (60 * 100000000000000000000000000) := Int.mul_le_mul hl h1 (Int.mul_nonneg (by omega) (by omega)) (by omega)
  have hg : Good ps := ⟨by omega, fun x hx => ⟨⟨(h x hx).1, (h x hx).2.1, by have := (h x hx).2.2.1; omega⟩, (h x hx).2.2.2.1⟩, by omega⟩
  refine ⟨hg, isText_dOf hg, ?_, ?_, ?_⟩
  · unfold dOf
    simp only [Fits]
    refine fitsAll_of fun d hd => ?_
    obtain ⟨x, hx, rfl⟩ := List.mem_map.mp hd
    simp only [Fits, FitsAll, and_true]
    refine ⟨fun c hc => ?_, ?_⟩
    · have := plain_mem (h x hx).1 hc
      rw [List.contains_iff_mem] at this
      have hk : ∀ c ∈ alpha, c < 4294967296 := by decide
      exact hk c this
    · have := (h x hx).2.2.2.2
      exact Nat.lt_of_le_of_lt (show ((x.2 : Nat) : Int).natAbs ≤ 100000000000000000000000000 by omega) (by decide)
  · unfold dOf
    simp only [BK.deep]
    have : deepAll (ps.map fun x => Dt.tup [.str x.1, .int (x.2 : Int)]) ≤ 1 := deepAll_le fun d hd => by
      obtain ⟨x, hx, rfl⟩ := List.mem_map.mp hd
      simp only [BK.deep, deepAll]
      omega
    omega
  · unfold dOf
    simp only [BK.bulk]
    have : bulkAll (ps.map fun x => Dt.tup [.str x.1, .int (x.2 : Int)]) ≤ (ps.map fun x => Dt.tup [.str x.1, .int (x.2 : Int)]).length * (62 + 1) := bulkAll_le fun d hd => by
      obtain ⟨x, hx, rfl⟩ := List.mem_map.mp hd
      simp only [BK.bulk, bulkAll]
      have := (h x hx).2.2.1
      omega
    rw [List.length_map] at this
    omega
theorem Far.like {d e : Dt} (h : Far d) (n : norm e = norm d) : Far e := by
  refine ⟨by rw [isText_like n]; exact h.text, ?_, ?_, ?_⟩
  · rw [← fits_norm, n, fits_norm]; exact h.fits
  · rw [← deep_norm, n, deep_norm]; exact h.deep
  · rw [← bulk_norm, n, bulk_norm]; exact h.bulk
theorem Far.row {d : Dt} (h : Far d) : isRow d = true := by
  have := h.text
  unfold isText at this
  simp only [Bool.and_eq_true] at this
  exact this.1.1.1
theorem pieces_dOf {ps : Pcs} (hg : Good ps) : ∀ d ∈ (dOf ps).items, isPiece d = true := by
  have := isText_dOf hg
  unfold isText at this
  simp only [Bool.and_eq_true] at this
  exact List.all_eq_true.mp this.1.2
theorem size_isum : ∀ ps : Pcs, (ps.map fun x => (x.1.length : Int) * (x.2 : Int)).sum = ((size ps : Nat) : Int)
  | [] => rfl
  | y :: ps => by rw [List.map_cons, List.sum_cons, size_cons, Int.natCast_add, Int.natCast_mul, size_isum ps]

/-! ## the rows of the law -/
theorem within_of {d : Dt} {lo hi : Int} (h : isWhole d lo = false) : isWithin d lo hi = false := by
  cases d with
  | int i =>
    unfold isWhole at h
    unfold isWithin
    simp only at h ⊢
    rw [h, Bool.false_and]
  | _ => rfl
def Mid (d : Dt) : Prop := FitD d ∧ deep d ≤ 10 ∧ bulk d ≤ 7000
def Sma (d : Dt) : Prop := FitD d ∧ deep d ≤ 10 ∧ bulk d ≤ 1000
theorem Sma.mid {d : Dt} (h : Sma d) : Mid d := ⟨h.1, h.2.1, by have := h.2.2; omega⟩
theorem Sma.int {i : Int} (h : i.natAbs < 10 ^ 47) : Sma (.int i) := ⟨by unfold FitD; exact h, by simp only [deep]; omega, by simp only [bulk]; omega⟩
theorem Sma.tiny {d : Dt} (h : Tiny d = true) : Sma d := ⟨(Tiny.fit h).1, by have := (Tiny.fit h).2.1; omega, (Tiny.fit h).2.2⟩
/-- a row: what is asked, with what, and what is due -/
def RowOk (T : Txt K mg) (dt d : Dt) : Prop := ∃ (ask : Nat) (e r : Dt) (w : List Nat), d = .tup [.int (ask : Int), e, r, .str w] ∧ ask ≤ 5 ∧ w.length ≤ 10 ∧ (∀ c ∈ w, c < 4294967296) ∧ Mid e ∧ Sma r ∧
  ((∃ D, Due T ask dt e r D (tx w)) ∨ (tx w = "none" ∧ Fine ask dt e r))
theorem RowOk.size {T : Txt K mg} {dt d : Dt} (h : RowOk T dt d) : FitD d ∧ deep d ≤ 11 ∧ bulk d ≤ 8100 := by
  obtain ⟨ask, e, r, w, rfl, h1, h2, h3, h4, h5, _⟩ := h
  refine ⟨?_, ?_, ?_⟩
  · unfold FitD FitDs FitDs FitDs FitDs FitDs
    exact ⟨by unfold FitD; exact Nat.lt_of_le_of_lt (show ((ask : Nat) : Int).natAbs ≤ 5 by omega) (by decide), h4.1, h5.1, by unfold FitD; exact h3, trivial⟩
  · simp only [deep, deepAll]
    have := h4.2.1
    have := h5.2.1
    omega
  · simp only [bulk, bulkAll]
    have := h4.2.2
    have := h5.2.2
    omega
def nNoText : List Nat := [78, 111, 84, 101, 120, 116]
def nNoPlace : List Nat := [78, 111, 80, 108, 97, 99, 101]
def nNoNumber : List Nat := [78, 111, 78, 117, 109, 98, 101, 114]
def nNoLetter : List Nat := [78, 111, 76, 101, 116, 116, 101, 114]
def nNone : List Nat := [110, 111, 110, 101]
theorem n_NoText : ("NoText" : Str) = tx nNoText := by decide +kernel
theorem n_NoPlace : ("NoPlace" : Str) = tx nNoPlace := by decide +kernel
theorem n_NoNumber : ("NoNumber" : Str) = tx nNoNumber := by decide +kernel
theorem n_NoLetter : ("NoLetter" : Str) = tx nNoLetter := by decide +kernel
theorem n_none : ("none" : Str) = tx nNone := by decide +kernel
theorem row_due {T : Txt K mg} {dt e r : Dt} {ask : Nat} {D : Addr} {n : Str} (w : List Nat) (hn : n = tx w) (h : Due T ask dt e r D n) (he : Mid e) (hr : Sma r) (ha : ask ≤ 5 := by decide) (hw : w.length ≤ 10 := by decide) (hc : ∀ c ∈ w, c < 4294967296 := by decide) : RowOk T dt (.tup [.int (ask : Int), e, r, .str w]) :=
  ⟨ask, e, r, w, rfl, ha, hw, hc, he, hr, .inl ⟨D, hn ▸ h⟩⟩
theorem row_fine {T : Txt K mg} {dt e r : Dt} {ask : Nat} (h : Fine ask dt e r) (he : Mid e) (hr : Sma r) (ha : ask ≤ 5 := by decide) : RowOk T dt (.tup [.int (ask : Int), e, r, .str nNone]) :=
  ⟨ask, e, r, nNone, rfl, ha, by decide, by decide, he, hr, .inr ⟨n_none.symm, h⟩⟩
/-- with a bad text, each question finds no text -/
theorem due_bad (T : Txt K mg) {db : Dt} (h : isText db = false) {ask : Nat} (e r : Dt) (ha : ask ≤ 5) : ∃ D, Due T ask db e r D "NoText" := by
  have : ask = 0 ∨ ask = 1 ∨ ask = 2 ∨ ask = 3 ∨ ask = 4 ∨ ask = 5 := by omega
  rcases this with rfl | rfl | rfl | rfl | rfl | rfl
  · exact ⟨_, .letter0 h⟩
  · exact ⟨_, .looks0 h⟩
  · exact ⟨_, .count0 h⟩
  · exact ⟨_, .nth0 h⟩
  · exact ⟨_, .un4 (.inl h)⟩
  · exact ⟨_, .un5 (.inl h)⟩
def env5 (dt : Dt) (z : Int) (db dd : Dt) (fr : Int) (ds : Dt) : Nat → Dt := fun i => [.non, .non, .non, dt, .int z, db, dd, .int fr, ds].getD i .non
theorem slots5 {p : Addr} {σ : L2.St} {H : Hp} {o : HO} {dt db dd ds : Dt} {z fr : Int} {vt vb vd vs : V} (ho : H p = some o)
    (h3 : σ[3]? = some (some vt)) (h4 : σ[4]? = some (some (.int z))) (h5 : σ[5]? = some (some vb)) (h6 : σ[6]? = some (some vd)) (h7 : σ[7]? = some (some (.int fr))) (h8 : σ[8]? = some (some vs))
    (a3 : At K (hid p H) vt dt) (a5 : At K (hid p H) vb db) (a6 : At K (hid p H) vd dd) (a8 : At K (hid p H) vs ds) (hz : z.natAbs < 10 ^ 47) (hf : fr.natAbs < 10 ^ 47) : Slots K [3, 4, 5, 6, 7, 8] [4, 7] p (env5 dt z db dd fr ds) σ H := by
  have big : (10 : Nat) ^ 47 ≤ 10 ^ 100 := by decide
  refine ⟨⟨o, ho⟩, fun i hi => ?_, fun i hi => ?_⟩
  · simp only [List.mem_cons, List.not_mem_nil, or_false] at hi
    rcases hi with rfl | rfl | rfl | rfl | rfl | rfl
    · exact ⟨_, h3, a3⟩
    · exact ⟨_, h4, la_int⟩
    · exact ⟨_, h5, a5⟩
    · exact ⟨_, h6, a6⟩
    · exact ⟨_, h7, la_int⟩
    · exact ⟨_, h8, a8⟩
  · simp only [List.mem_cons, List.not_mem_nil, or_false] at hi
    rcases hi with rfl | rfl
    · exact ⟨z, rfl, Nat.lt_of_lt_of_le hz big⟩
    · exact ⟨fr, rfl, Nat.lt_of_lt_of_le hf big⟩
/-- the rows but the last -/
def rows5 (dt : Dt) (z : Int) (db dd : Dt) (fr : Int) (ds : Dt) : List Dt :=
  [.tup [.int 0, dd, .int 0, .str nNoPlace], .tup [.int 0, .int z, .int 0, .str nNoPlace], .tup [.int 0, .int (z + fr), .int 0, .str nNoPlace], .tup [.int 1, .int z, .int 0, .str nNone]] ++
  [.tup [.int 1, dd, dd, .str nNoPlace], .tup [.int 1, .int (z + fr), dd, .str nNoPlace], .tup [.int 1, .int 0, dd, .str nNoNumber]] ++
  [.tup [.int 1, .int 0, .int (2000 + fr), .str nNoNumber], .tup [.int 1, .int z, .int 2000, .str nNone], .tup [.int 2, ds, dd, .str nNoLetter]] ++
  [.tup [.int 2, .str [97], dd, .str nNoNumber], .tup [.int 2, .str [122], .int (z + fr), .str nNoNumber], .tup [.int 2, .str [109], .int z, .str nNone]] ++
  [.tup [.int 3, ds, dd, .str nNoLetter], .tup [.int 3, .str [97], dd, .str nNoNumber], .tup [.int 3, .str [97], .int (z + fr), .str nNone]] ++
  [.tup [.int 4, db, .int 0, .str nNoText], .tup [.int 5, db, .int 0, .str nNoText], .tup [.int 4, dt, .int 0, .str nNone]]
theorem rows5_ok (T : Txt K mg) {dt db dd ds : Dt} {z fr : Nat} (ht : isText dt = true) (hz : size (pcs dt) = z) (hb : isText db = false) (hd : isWhole dd 0 = false) (hs : isLetter ds = false) (h1 : 1 ≤ fr) (hzs : z ≤ 10 ^ 30) (hfs : fr ≤ 10 ^ 30)
    (mt : Mid dt) (mb : Mid db) (md : Sma dd) (ms : Sma ds) : ∀ d ∈ rows5 dt (z : Int) db dd (fr : Int) ds, RowOk T dt d := by
  have hw : ∀ lo hi : Int, 0 ≤ lo → isWithin dd 0 hi = false := fun lo hi _ => within_of hd
  have hW : ∀ hi : Int, isWithin dd 0 hi = false := fun hi => within_of hd
  have sn : ∀ {i : Int}, 0 ≤ i → i ≤ 3 * 10 ^ 30 → Sma (.int i) := fun h0 h => Sma.int (Nat.lt_of_le_of_lt (show _ ≤ 3 * 10 ^ 30 by omega) (by decide))
  have sz := sn (i := (z : Int)) (by omega) (by omega)
  have s0 := sn (i := 0) (by omega) (by omega)
  have s2 := sn (i := 2000) (by omega) (by omega)
  have szf := sn (i := (z : Int) + (fr : Int)) (by omega) (by omega)
  have s2f := sn (i := 2000 + (fr : Int)) (by omega) (by omega)
  have sa : Sma (.str [97]) := .tiny (by decide +kernel)
  have sm : Sma (.str [109]) := .tiny (by decide +kernel)
  have sZ : Sma (.str [122]) := .tiny (by decide +kernel)
  have hout : ∀ {i hi : Int}, hi < i → isWithin (.int i) 0 hi = false := fun h => by
    unfold isWithin
    simp only [Bool.and_eq_false_imp, decide_eq_true_eq, decide_eq_false_iff_not]
    omega
  have hin : ∀ {i hi : Int}, 0 ≤ i → i ≤ hi → isWithin (.int i) 0 hi = true := fun h h2 => by
    unfold isWithin
    simp only [Bool.and_eq_true, decide_eq_true_eq]
    omega
  have ca : ((z : Int) + (fr : Int)) = ((z + fr : Nat) : Int) := (Int.natCast_add z fr).symm
  intro d hd5
  unfold rows5 at hd5
  simp only [List.mem_append, List.mem_cons, List.not_mem_nil, or_false] at hd5
  rcases hd5 with ((((((rfl | rfl | rfl | rfl) | (rfl | rfl | rfl)) | (rfl | rfl | rfl)) | (rfl | rfl | rfl)) | (rfl | rfl | rfl)) | (rfl | rfl | rfl))
  · exact row_due (ask := 0) _ n_NoPlace (.letter1 ht (hW _)) md.mid s0
  · exact row_due (ask := 0) _ n_NoPlace (.letter1 ht (hout (by omega))) sz.mid s0
  · exact row_due (ask := 0) _ n_NoPlace (.letter1 ht (hout (by omega))) szf.mid s0
  · exact row_fine (ask := 1) (.looks (many := 0) ht (by omega) (by omega)) sz.mid s0
  · exact row_due (ask := 1) _ n_NoPlace (.looks1 ht (hW _)) md.mid md
  · exact row_due (ask := 1) _ n_NoPlace (.looks1 ht (hout (by omega))) szf.mid md
  · exact row_due (ask := 1) _ n_NoNumber (.looks2 ht (hin (by omega) (by omega)) (hW _)) s0.mid md
  · exact row_due (ask := 1) _ n_NoNumber (.looks2 ht (hin (by omega) (by omega)) (hout (by omega))) s0.mid s2f
  · exact row_fine (ask := 1) (.looks (many := 2000) ht (by omega) (by omega)) sz.mid s2
  · exact row_due (ask := 2) _ n_NoLetter (.count1 ht hs) ms.mid md
  · exact row_due (ask := 2) _ n_NoNumber (.count2 ht (by decide +kernel) (hW _)) sa.mid md
  · exact row_due (ask := 2) _ n_NoNumber (.count2 ht (by decide +kernel) (hout (by omega))) sZ.mid szf
  · exact row_fine (ask := 2) (.count (many := z) ht (by decide +kernel) (by omega)) sm.mid sz
  · exact row_due (ask := 3) _ n_NoLetter (.nth1 ht hs) ms.mid md
  · exact row_due (ask := 3) _ n_NoNumber (.nth2 ht (by decide +kernel) hd) sa.mid md
  · rw [ca] at szf ⊢
    exact row_fine (ask := 3) (.nth ht (by decide +kernel)) sa.mid szf
  · exact row_due (ask := 4) _ n_NoText (.un4 (.inr hb)) mb s0
  · exact row_due (ask := 5) _ n_NoText (.un5 (.inr hb)) mb s0
  · exact row_fine (ask := 4) (.un ht ht) mt s0
theorem row_last (T : Txt K mg) {dt : Dt} {z : Nat} (ht : isText dt = true) (hz : size (pcs dt) = z) (h0 : 0 < z) (hzs : z ≤ 10 ^ 30) : RowOk T dt (.tup [.int 0, .int ((z : Int) - 1), .int 0, .str nNone]) := by
  have e : ((z : Int) - 1) = ((z - 1 : Nat) : Int) := by omega
  rw [e]
  have hl : z - 1 < (spell (pcs dt)).length := by rw [spell_len]; omega
  exact row_fine (ask := 0) (.letter ht (List.getElem?_eq_getElem hl)) (Sma.int (Nat.lt_of_le_of_lt (show _ ≤ 10 ^ 30 by omega) (by decide))).mid (Sma.int (by decide))
theorem same_rows {ds : List Dt} (h : ds.length ≤ 25) (hr : ∀ d ∈ ds, FitD d ∧ deep d ≤ 11 ∧ bulk d ≤ 8100) : FitDs ds ∧ deepAll ds ≤ 11 ∧ bulkAll ds ≤ 25 * 8101 := by
  refine ⟨fitDs_of fun d hd => (hr d hd).1, deepAll_le fun d hd => (hr d hd).2.1, ?_⟩
  have := bulkAll_le (n := 8100) fun d hd => (hr d hd).2.2
  have h2 : ds.length * (8100 + 1) ≤ 25 * 8101 := Nat.mul_le_mul h (Nat.le_refl _)
  omega
theorem neat3 {a b : Dt} {ds : List Dt} (ha : Mid a) (hb : Mid b) (h : ds.length ≤ 25) (hr : ∀ d ∈ ds, FitD d ∧ deep d ≤ 11 ∧ bulk d ≤ 8100) : NeatD (.lst [a, b, .lst ds]) := by
  obtain ⟨h1, h2, h3⟩ := same_rows h hr
  have := ha.2
  have := hb.2
  refine ⟨?_, ?_, ?_⟩
  · unfold FitD FitDs FitDs FitDs FitDs
    exact ⟨ha.1, hb.1, by unfold FitD; exact h1, trivial⟩
  · simp only [deep, deepAll]
    omega
  · simp only [bulk, bulkAll]
    omega

theorem hid_frA {a : Addr} {H H' : Hp} (s : Same H H') (n : H a = none) : Same H (hid a H') := fun b o h => by
  rw [hid_ne (fun z => by rw [z, n] at h; cases h)]
  exact s b o h
theorem hid_mut {a : Addr} {H : Hp} {o : HO} : Same (hid a H) (upd H a o) := fun b u h => by
  by_cases e : b = a
  · subst e
    unfold hid at h
    rw [if_pos rfl] at h
    cases h
  · rw [hid_ne e] at h
    rw [upd_ne e]
    exact h
theorem odd8 : ∀ d ∈ ([.int (-1), .bl true, .bl false, .non, .str [48], .lst [.int 0], .tup [], .int (-(10 : Nat) ^ 20)] : List Dt), isWhole d 0 = false ∧ Tiny d = true := by
  have : ([.int (-1), .bl true, .bl false, .non, .str [48], .lst [.int 0], .tup [], .int (-(10 : Nat) ^ 20)] : List Dt).all (fun d => !isWhole d 0 && Tiny d) = true := by decide +kernel
  intro d hd
  have := List.all_eq_true.mp this d hd
  simpa using this
theorem sign9 : ∀ d ∈ ([.str [], .str [97, 98], .str [65], .non, .int 0, .lst [.str [97]], .tup [.str [97]], .str [45], .bl true] : List Dt), isLetter d = false ∧ Tiny d = true := by
  have : ([.str [], .str [97, 98], .str [65], .non, .int 0, .lst [.str [97]], .tup [.str [97]], .str [45], .bl true] : List Dt).all (fun d => !isLetter d && Tiny d) = true := by decide +kernel
  intro d hd
  have := List.all_eq_true.mp this d hd
  simpa using this
def spLaw (K : PySem.W.Frag) : Sp := fun vs H Q _ => ∃ (a : Addr) (ns : List Int), vs = [.ref a] ∧ SqL K H a (ns.map V.int) ∧ ns.length ≤ 63 ∧ ∀ H', Q (.bl true) H'
theorem ok_law (T : Txt K mg) (hm : Mods base) : FnG P w K mg base CX0 9 T.f_law.f T.f_law.fd ["script"] (spLaw K) := by
  refine funG T.f_law.F sc_law (fun vs H Q E h => ?_) (fun cdv A outer s H vs Q E hg hr h => ?_)
  · obtain ⟨a, ns, rfl, _⟩ := h
    rfl
  obtain ⟨a, ns, rfl, hs, hlen, q⟩ := h
  refine ⟨_, (pss_cons (ps_set (i := 1) sc_law.nd rfl (.inl rfl) (pe_call (ok__law_spring T) (hr.mono (by decide)) (by rfl) T.f__law_spring.g T.f__law_spring.F.kp T.f__law_spring.b .nil pass0 (pa_cons (pv 0) pa_nil)))
      (pss_cons (ps_for PassesOwn.never rfl (pi_range1 (by rfl) T.b_range (pa_cons (pe_op op_add pe_int (pe_callB (call_min2 rfl) (by rfl) T.b_min (by decide +kernel) (pa_cons (pe_callB (call_lenK K) (by rfl) T.b_len (by decide +kernel) (pa_cons (pv 0) pa_nil)) (pa_cons pe_int pa_nil)))) pa_nil)) (pg_name (i := 2) sc_law.nd rfl (.inl rfl))
        (pss_cons (ps_set (i := 3) sc_law.nd rfl (.inl rfl) (pe_call (ok__law_text T) (hr.mono (by decide)) (by rfl) T.f__law_text.g T.f__law_text.F.kp T.f__law_text.b .nil pass0 (pa_cons (pv 1) (pa_cons pe_int (pa_cons pe_int (pa_cons (pe_ix ix_seq (pe_lst (pa_cons pe_int (pa_cons (pe_op op_pow pe_int pe_int) pa_nil))) (pe_call (ok__law_draw T) (hr.mono (by decide)) (by rfl) T.f__law_draw.g T.f__law_draw.F.kp T.f__law_draw.b .nil pass0 (pa_cons (pv 1) (pa_cons pe_int pa_nil))) (fun _ _ => rfl)) pa_nil))))))
      (pss_cons (ps_set (i := 4) sc_law.nd rfl (.inl rfl) (pe_callB (cr_sum rfl) (by rfl) T.b_sum (by decide +kernel) (pa_cons (pe_lc (own := [("word", 15), ("times", 16)]) rfl sc_law.nd (pi_list (pv 3)) (blkOk_by (own := [("word", 15), ("times", 16)]) (N := N_law) (sc := defScope s_law) (by decide +kernel)) (fun _ _ _ _ _ => (pg_tupK (n := 2) K rfl (pgs_cons (pg_name (i := 15) sc_law.nd rfl (.inl rfl)) (pgs_cons (pg_name (i := 16) sc_law.nd rfl (.inl rfl)) pgs_nil)))) (fun _ _ _ _ _ => pts_nil) (fun _ _ _ _ _ => (pe_op op_mul (pe_callB (call_lenK K) (by rfl) T.b_len (by decide +kernel) (pa_cons (pv 15) pa_nil)) (pv 16)))) pa_nil)))
      (pss_cons (ps_set (i := 5) sc_law.nd rfl (.inl rfl) (pe_call (ok__law_no_text T) (hr.mono (by decide)) (by rfl) T.f__law_no_text.g T.f__law_no_text.F.kp T.f__law_no_text.b .nil pass0 (pa_cons (pv 1) (pa_cons (pv 3) pa_nil))))
      (pss_cons (ps_set (i := 6) sc_law.nd rfl (.inl rfl) (pe_ix ix_seq (pe_lst (lits_cons lit_neg (lits_cons lit_bl (lits_cons lit_bl (lits_cons lit_non (lits_cons (lit_str [48] (by decide +kernel) (by decide)) (lits_cons (lit_lst (lits_cons lit_int lits_nil) (by show _ ≤ sizeLine; decide)) (lits_cons (lit_tup lits_nil (by show _ ≤ sizeLine; decide)) (lits_cons (lit_negE (lit_pow (a := 10) (b := 20) (by decide) (by rfl) (by rfl))) lits_nil))))))))) (pe_call (ok__law_draw T) (hr.mono (by decide)) (by rfl) T.f__law_draw.g T.f__law_draw.F.kp T.f__law_draw.b .nil pass0 (pa_cons (pv 1) (pa_cons pe_int pa_nil))) (fun _ _ => rfl)))
      (pss_cons (ps_set (i := 7) sc_law.nd rfl (.inl rfl) (pe_ix ix_seq (pe_lst (pa_cons pe_int (pa_cons (pe_op op_add pe_int (pe_call (ok__law_draw T) (hr.mono (by decide)) (by rfl) T.f__law_draw.g T.f__law_draw.F.kp T.f__law_draw.b .nil pass0 (pa_cons (pv 1) (pa_cons (pe_op op_pow pe_int pe_int) pa_nil)))) pa_nil))) (pe_call (ok__law_draw T) (hr.mono (by decide)) (by rfl) T.f__law_draw.g T.f__law_draw.F.kp T.f__law_draw.b .nil pass0 (pa_cons (pv 1) (pa_cons pe_int pa_nil))) (fun _ _ => rfl)))
      (pss_cons (ps_set (i := 8) sc_law.nd rfl (.inl rfl) (pe_ix ix_seq (pe_lst (lits_cons (lit_str [] (by decide +kernel) (by decide)) (lits_cons (lit_str [97, 98] (by decide +kernel) (by decide)) (lits_cons (lit_str [65] (by decide +kernel) (by decide)) (lits_cons lit_non (lits_cons lit_int (lits_cons (lit_lst (lits_cons (lit_str [97] (by decide +kernel) (by decide)) lits_nil) (by show _ ≤ sizeLine; decide)) (lits_cons (lit_tup (lits_cons (lit_str [97] (by decide +kernel) (by decide)) lits_nil) (by show _ ≤ sizeLine; decide)) (lits_cons (lit_str [45] (by decide +kernel) (by decide)) (lits_cons lit_bl lits_nil)))))))))) (pe_call (ok__law_draw T) (hr.mono (by decide)) (by rfl) T.f__law_draw.g T.f__law_draw.F.kp T.f__law_draw.b .nil pass0 (pa_cons (pv 1) (pa_cons pe_int pa_nil))) (fun _ _ => rfl)))
      (pss_cons (ps_set (i := 9) sc_law.nd rfl (.inl rfl) (tg_new (tgs_cons (tg_tup (tgs_cons (tg_lit (U := [3, 4, 5, 6, 7, 8]) (I := [4, 7]) lit_int) (tgs_cons (tg_var (U := [3, 4, 5, 6, 7, 8]) (I := [4, 7]) (pv 6) (by decide)) (tgs_cons (tg_lit (U := [3, 4, 5, 6, 7, 8]) (I := [4, 7]) lit_int) (tgs_cons (tg_lit (U := [3, 4, 5, 6, 7, 8]) (I := [4, 7]) (lit_str [78, 111, 80, 108, 97, 99, 101] (by decide +kernel) (by decide))) (tgs_nil (U := [3, 4, 5, 6, 7, 8]) (I := [4, 7])))))) (fun ρ => few_le (by simp only [List.length_cons, List.length_nil]; omega))) (tgs_cons (tg_tup (tgs_cons (tg_lit (U := [3, 4, 5, 6, 7, 8]) (I := [4, 7]) lit_int) (tgs_cons (tg_var (U := [3, 4, 5, 6, 7, 8]) (I := [4, 7]) (pv 4) (by decide)) (tgs_cons (tg_lit (U := [3, 4, 5, 6, 7, 8]) (I := [4, 7]) lit_int) (tgs_cons (tg_lit (U := [3, 4, 5, 6, 7, 8]) (I := [4, 7]) (lit_str [78, 111, 80, 108, 97, 99, 101] (by decide +kernel) (by decide))) (tgs_nil (U := [3, 4, 5, 6, 7, 8]) (I := [4, 7])))))) (fun ρ => few_le (by simp only [List.length_cons, List.length_nil]; omega))) (tgs_cons (tg_tup (tgs_cons (tg_lit (U := [3, 4, 5, 6, 7, 8]) (I := [4, 7]) lit_int) (tgs_cons (tg_num (tn_add (tn_var (U := [3, 4, 5, 6, 7, 8]) (I := [4, 7]) (pv 4) (by decide) (by decide)) (tn_var (U := [3, 4, 5, 6, 7, 8]) (I := [4, 7]) (pv 7) (by decide) (by decide)))) (tgs_cons (tg_lit (U := [3, 4, 5, 6, 7, 8]) (I := [4, 7]) lit_int) (tgs_cons (tg_lit (U := [3, 4, 5, 6, 7, 8]) (I := [4, 7]) (lit_str [78, 111, 80, 108, 97, 99, 101] (by decide +kernel) (by decide))) (tgs_nil (U := [3, 4, 5, 6, 7, 8]) (I := [4, 7])))))) (fun ρ => few_le (by simp only [List.length_cons, List.length_nil]; omega))) (tgs_cons (tg_tup (tgs_cons (tg_lit (U := [3, 4, 5, 6, 7, 8]) (I := [4, 7]) lit_int) (tgs_cons (tg_var (U := [3, 4, 5, 6, 7, 8]) (I := [4, 7]) (pv 4) (by decide)) (tgs_cons (tg_lit (U := [3, 4, 5, 6, 7, 8]) (I := [4, 7]) lit_int) (tgs_cons (tg_lit (U := [3, 4, 5, 6, 7, 8]) (I := [4, 7]) (lit_str [110, 111, 110, 101] (by decide +kernel) (by decide))) (tgs_nil (U := [3, 4, 5, 6, 7, 8]) (I := [4, 7])))))) (fun ρ => few_le (by simp only [List.length_cons, List.length_nil]; omega))) (tgs_nil (U := [3, 4, 5, 6, 7, 8]) (I := [4, 7])))))) (fun ρ => few_le (by simp only [List.length_cons, List.length_nil]; omega))))
      (pss_cons (ps_set (i := 9) sc_law.nd rfl (.inl rfl) (tg_join (pv 9) (tgs_cons (tg_tup (tgs_cons (tg_lit (U := [3, 4, 5, 6, 7, 8]) (I := [4, 7]) lit_int) (tgs_cons (tg_var (U := [3, 4, 5, 6, 7, 8]) (I := [4, 7]) (pv 6) (by decide)) (tgs_cons (tg_var (U := [3, 4, 5, 6, 7, 8]) (I := [4, 7]) (pv 6) (by decide)) (tgs_cons (tg_lit (U := [3, 4, 5, 6, 7, 8]) (I := [4, 7]) (lit_str [78, 111, 80, 108, 97, 99, 101] (by decide +kernel) (by decide))) (tgs_nil (U := [3, 4, 5, 6, 7, 8]) (I := [4, 7])))))) (fun ρ => few_le (by simp only [List.length_cons, List.length_nil]; omega))) (tgs_cons (tg_tup (tgs_cons (tg_lit (U := [3, 4, 5, 6, 7, 8]) (I := [4, 7]) lit_int) (tgs_cons (tg_num (tn_add (tn_var (U := [3, 4, 5, 6, 7, 8]) (I := [4, 7]) (pv 4) (by decide) (by decide)) (tn_var (U := [3, 4, 5, 6, 7, 8]) (I := [4, 7]) (pv 7) (by decide) (by decide)))) (tgs_cons (tg_var (U := [3, 4, 5, 6, 7, 8]) (I := [4, 7]) (pv 6) (by decide)) (tgs_cons (tg_lit (U := [3, 4, 5, 6, 7, 8]) (I := [4, 7]) (lit_str [78, 111, 80, 108, 97, 99, 101] (by decide +kernel) (by decide))) (tgs_nil (U := [3, 4, 5, 6, 7, 8]) (I := [4, 7])))))) (fun ρ => few_le (by simp only [List.length_cons, List.length_nil]; omega))) (tgs_cons (tg_tup (tgs_cons (tg_lit (U := [3, 4, 5, 6, 7, 8]) (I := [4, 7]) lit_int) (tgs_cons (tg_lit (U := [3, 4, 5, 6, 7, 8]) (I := [4, 7]) lit_int) (tgs_cons (tg_var (U := [3, 4, 5, 6, 7, 8]) (I := [4, 7]) (pv 6) (by decide)) (tgs_cons (tg_lit (U := [3, 4, 5, 6, 7, 8]) (I := [4, 7]) (lit_str [78, 111, 78, 117, 109, 98, 101, 114] (by decide +kernel) (by decide))) (tgs_nil (U := [3, 4, 5, 6, 7, 8]) (I := [4, 7])))))) (fun ρ => few_le (by simp only [List.length_cons, List.length_nil]; omega))) (tgs_nil (U := [3, 4, 5, 6, 7, 8]) (I := [4, 7]))))) (fun ρ => by simp only [List.length_cons, List.length_nil]; omega)))
      (pss_cons (ps_set (i := 9) sc_law.nd rfl (.inl rfl) (tg_join (pv 9) (tgs_cons (tg_tup (tgs_cons (tg_lit (U := [3, 4, 5, 6, 7, 8]) (I := [4, 7]) lit_int) (tgs_cons (tg_lit (U := [3, 4, 5, 6, 7, 8]) (I := [4, 7]) lit_int) (tgs_cons (tg_num (tn_add (tn_lit (U := [3, 4, 5, 6, 7, 8]) (I := [4, 7])) (tn_var (U := [3, 4, 5, 6, 7, 8]) (I := [4, 7]) (pv 7) (by decide) (by decide)))) (tgs_cons (tg_lit (U := [3, 4, 5, 6, 7, 8]) (I := [4, 7]) (lit_str [78, 111, 78, 117, 109, 98, 101, 114] (by decide +kernel) (by decide))) (tgs_nil (U := [3, 4, 5, 6, 7, 8]) (I := [4, 7])))))) (fun ρ => few_le (by simp only [List.length_cons, List.length_nil]; omega))) (tgs_cons (tg_tup (tgs_cons (tg_lit (U := [3, 4, 5, 6, 7, 8]) (I := [4, 7]) lit_int) (tgs_cons (tg_var (U := [3, 4, 5, 6, 7, 8]) (I := [4, 7]) (pv 4) (by decide)) (tgs_cons (tg_lit (U := [3, 4, 5, 6, 7, 8]) (I := [4, 7]) lit_int) (tgs_cons (tg_lit (U := [3, 4, 5, 6, 7, 8]) (I := [4, 7]) (lit_str [110, 111, 110, 101] (by decide +kernel) (by decide))) (tgs_nil (U := [3, 4, 5, 6, 7, 8]) (I := [4, 7])))))) (fun ρ => few_le (by simp only [List.length_cons, List.length_nil]; omega))) (tgs_cons (tg_tup (tgs_cons (tg_lit (U := [3, 4, 5, 6, 7, 8]) (I := [4, 7]) lit_int) (tgs_cons (tg_var (U := [3, 4, 5, 6, 7, 8]) (I := [4, 7]) (pv 8) (by decide)) (tgs_cons (tg_var (U := [3, 4, 5, 6, 7, 8]) (I := [4, 7]) (pv 6) (by decide)) (tgs_cons (tg_lit (U := [3, 4, 5, 6, 7, 8]) (I := [4, 7]) (lit_str [78, 111, 76, 101, 116, 116, 101, 114] (by decide +kernel) (by decide))) (tgs_nil (U := [3, 4, 5, 6, 7, 8]) (I := [4, 7])))))) (fun ρ => few_le (by simp only [List.length_cons, List.length_nil]; omega))) (tgs_nil (U := [3, 4, 5, 6, 7, 8]) (I := [4, 7]))))) (fun ρ => by simp only [List.length_cons, List.length_nil]; omega)))
      (pss_cons (ps_set (i := 9) sc_law.nd rfl (.inl rfl) (tg_join (pv 9) (tgs_cons (tg_tup (tgs_cons (tg_lit (U := [3, 4, 5, 6, 7, 8]) (I := [4, 7]) lit_int) (tgs_cons (tg_lit (U := [3, 4, 5, 6, 7, 8]) (I := [4, 7]) (lit_str [97] (by decide +kernel) (by decide))) (tgs_cons (tg_var (U := [3, 4, 5, 6, 7, 8]) (I := [4, 7]) (pv 6) (by decide)) (tgs_cons (tg_lit (U := [3, 4, 5, 6, 7, 8]) (I := [4, 7]) (lit_str [78, 111, 78, 117, 109, 98, 101, 114] (by decide +kernel) (by decide))) (tgs_nil (U := [3, 4, 5, 6, 7, 8]) (I := [4, 7])))))) (fun ρ => few_le (by simp only [List.length_cons, List.length_nil]; omega))) (tgs_cons (tg_tup (tgs_cons (tg_lit (U := [3, 4, 5, 6, 7, 8]) (I := [4, 7]) lit_int) (tgs_cons (tg_lit (U := [3, 4, 5, 6, 7, 8]) (I := [4, 7]) (lit_str [122] (by decide +kernel) (by decide))) (tgs_cons (tg_num (tn_add (tn_var (U := [3, 4, 5, 6, 7, 8]) (I := [4, 7]) (pv 4) (by decide) (by decide)) (tn_var (U := [3, 4, 5, 6, 7, 8]) (I := [4, 7]) (pv 7) (by decide) (by decide)))) (tgs_cons (tg_lit (U := [3, 4, 5, 6, 7, 8]) (I := [4, 7]) (lit_str [78, 111, 78, 117, 109, 98, 101, 114] (by decide +kernel) (by decide))) (tgs_nil (U := [3, 4, 5, 6, 7, 8]) (I := [4, 7])))))) (fun ρ => few_le (by simp only [List.length_cons, List.length_nil]; omega))) (tgs_cons (tg_tup (tgs_cons (tg_lit (U := [3, 4, 5, 6, 7, 8]) (I := [4, 7]) lit_int) (tgs_cons (tg_lit (U := [3, 4, 5, 6, 7, 8]) (I := [4, 7]) (lit_str [109] (by decide +kernel) (by decide))) (tgs_cons (tg_var (U := [3, 4, 5, 6, 7, 8]) (I := [4, 7]) (pv 4) (by decide)) (tgs_cons (tg_lit (U := [3, 4, 5, 6, 7, 8]) (I := [4, 7]) (lit_str [110, 111, 110, 101] (by decide +kernel) (by decide))) (tgs_nil (U := [3, 4, 5, 6, 7, 8]) (I := [4, 7])))))) (fun ρ => few_le (by simp only [List.length_cons, List.length_nil]; omega))) (tgs_nil (U := [3, 4, 5, 6, 7, 8]) (I := [4, 7]))))) (fun ρ => by simp only [List.length_cons, List.length_nil]; omega)))
      (pss_cons (ps_set (i := 9) sc_law.nd rfl (.inl rfl) (tg_join (pv 9) (tgs_cons (tg_tup (tgs_cons (tg_lit (U := [3, 4, 5, 6, 7, 8]) (I := [4, 7]) lit_int) (tgs_cons (tg_var (U := [3, 4, 5, 6, 7, 8]) (I := [4, 7]) (pv 8) (by decide)) (tgs_cons (tg_var (U := [3, 4, 5, 6, 7, 8]) (I := [4, 7]) (pv 6) (by decide)) (tgs_cons (tg_lit (U := [3, 4, 5, 6, 7, 8]) (I := [4, 7]) (lit_str [78, 111, 76, 101, 116, 116, 101, 114] (by decide +kernel) (by decide))) (tgs_nil (U := [3, 4, 5, 6, 7, 8]) (I := [4, 7])))))) (fun ρ => few_le (by simp only [List.length_cons, List.length_nil]; omega))) (tgs_cons (tg_tup (tgs_cons (tg_lit (U := [3, 4, 5, 6, 7, 8]) (I := [4, 7]) lit_int) (tgs_cons (tg_lit (U := [3, 4, 5, 6, 7, 8]) (I := [4, 7]) (lit_str [97] (by decide +kernel) (by decide))) (tgs_cons (tg_var (U := [3, 4, 5, 6, 7, 8]) (I := [4, 7]) (pv 6) (by decide)) (tgs_cons (tg_lit (U := [3, 4, 5, 6, 7, 8]) (I := [4, 7]) (lit_str [78, 111, 78, 117, 109, 98, 101, 114] (by decide +kernel) (by decide))) (tgs_nil (U := [3, 4, 5, 6, 7, 8]) (I := [4, 7])))))) (fun ρ => few_le (by simp only [List.length_cons, List.length_nil]; omega))) (tgs_cons (tg_tup (tgs_cons (tg_lit (U := [3, 4, 5, 6, 7, 8]) (I := [4, 7]) lit_int) (tgs_cons (tg_lit (U := [3, 4, 5, 6, 7, 8]) (I := [4, 7]) (lit_str [97] (by decide +kernel) (by decide))) (tgs_cons (tg_num (tn_add (tn_var (U := [3, 4, 5, 6, 7, 8]) (I := [4, 7]) (pv 4) (by decide) (by decide)) (tn_var (U := [3, 4, 5, 6, 7, 8]) (I := [4, 7]) (pv 7) (by decide) (by decide)))) (tgs_cons (tg_lit (U := [3, 4, 5, 6, 7, 8]) (I := [4, 7]) (lit_str [110, 111, 110, 101] (by decide +kernel) (by decide))) (tgs_nil (U := [3, 4, 5, 6, 7, 8]) (I := [4, 7])))))) (fun ρ => few_le (by simp only [List.length_cons, List.length_nil]; omega))) (tgs_nil (U := [3, 4, 5, 6, 7, 8]) (I := [4, 7]))))) (fun ρ => by simp only [List.length_cons, List.length_nil]; omega)))
      (pss_cons (ps_set (i := 9) sc_law.nd rfl (.inl rfl) (tg_join (pv 9) (tgs_cons (tg_tup (tgs_cons (tg_lit (U := [3, 4, 5, 6, 7, 8]) (I := [4, 7]) lit_int) (tgs_cons (tg_var (U := [3, 4, 5, 6, 7, 8]) (I := [4, 7]) (pv 5) (by decide)) (tgs_cons (tg_lit (U := [3, 4, 5, 6, 7, 8]) (I := [4, 7]) lit_int) (tgs_cons (tg_lit (U := [3, 4, 5, 6, 7, 8]) (I := [4, 7]) (lit_str [78, 111, 84, 101, 120, 116] (by decide +kernel) (by decide))) (tgs_nil (U := [3, 4, 5, 6, 7, 8]) (I := [4, 7])))))) (fun ρ => few_le (by simp only [List.length_cons, List.length_nil]; omega))) (tgs_cons (tg_tup (tgs_cons (tg_lit (U := [3, 4, 5, 6, 7, 8]) (I := [4, 7]) lit_int) (tgs_cons (tg_var (U := [3, 4, 5, 6, 7, 8]) (I := [4, 7]) (pv 5) (by decide)) (tgs_cons (tg_lit (U := [3, 4, 5, 6, 7, 8]) (I := [4, 7]) lit_int) (tgs_cons (tg_lit (U := [3, 4, 5, 6, 7, 8]) (I := [4, 7]) (lit_str [78, 111, 84, 101, 120, 116] (by decide +kernel) (by decide))) (tgs_nil (U := [3, 4, 5, 6, 7, 8]) (I := [4, 7])))))) (fun ρ => few_le (by simp only [List.length_cons, List.length_nil]; omega))) (tgs_cons (tg_tup (tgs_cons (tg_lit (U := [3, 4, 5, 6, 7, 8]) (I := [4, 7]) lit_int) (tgs_cons (tg_var (U := [3, 4, 5, 6, 7, 8]) (I := [4, 7]) (pv 3) (by decide)) (tgs_cons (tg_lit (U := [3, 4, 5, 6, 7, 8]) (I := [4, 7]) lit_int) (tgs_cons (tg_lit (U := [3, 4, 5, 6, 7, 8]) (I := [4, 7]) (lit_str [110, 111, 110, 101] (by decide +kernel) (by decide))) (tgs_nil (U := [3, 4, 5, 6, 7, 8]) (I := [4, 7])))))) (fun ρ => few_le (by simp only [List.length_cons, List.length_nil]; omega))) (tgs_nil (U := [3, 4, 5, 6, 7, 8]) (I := [4, 7]))))) (fun ρ => by simp only [List.length_cons, List.length_nil]; omega)))
      (pss_cons (ps_if (pt_cmpR op_gt (pv 4) pe_int (nomark _)) (pss_one (ps_expr (pe_bm PySem.F.plainAttrs_list PySem.F.slot_list_append PySem.F.type_list_append mt_append (pv 9) (pa_cons (tg_tup (tgs_cons (tg_lit (U := [3, 4, 5, 6, 7, 8]) (I := [4, 7]) lit_int) (tgs_cons (tg_num (tn_sub (tn_var (U := [3, 4, 5, 6, 7, 8]) (I := [4, 7]) (pv 4) (by decide) (by decide)) (tn_lit (U := [3, 4, 5, 6, 7, 8]) (I := [4, 7])))) (tgs_cons (tg_lit (U := [3, 4, 5, 6, 7, 8]) (I := [4, 7]) lit_int) (tgs_cons (tg_lit (U := [3, 4, 5, 6, 7, 8]) (I := [4, 7]) (lit_str [110, 111, 110, 101] (by decide +kernel) (by decide))) (tgs_nil (U := [3, 4, 5, 6, 7, 8]) (I := [4, 7])))))) (fun ρ => few_le (by simp only [List.length_cons, List.length_nil]; omega))) pa_nil)))) pss_nil)
      (pss_cons (ps_set (i := 10) sc_law.nd rfl (.inl rfl) (pe_callB (call_reprD hm hg hr.units) (by rfl) T.b_repr (by decide +kernel) (pa_cons (pe_lst (pa_cons (pv 3) (pa_cons (pv 5) (pa_cons (pv 9) pa_nil)))) pa_nil)))
      (pss_cons (ps_for PassesOwn.never rfl (pi_list (pv 9)) (pg_tup (n := 4) rfl (pgs_cons (pg_name (i := 11) sc_law.nd rfl (.inl rfl)) (pgs_cons (pg_name (i := 12) sc_law.nd rfl (.inl rfl)) (pgs_cons (pg_name (i := 13) sc_law.nd rfl (.inl rfl)) (pgs_cons (pg_name (i := 14) sc_law.nd rfl (.inl rfl)) pgs_nil)))))
        (pss_one (ps_if (PW.pt (pw_or (pt_cmpR op_ne (pe_call (ok__law_asked T) (hr.mono (by decide)) (by rfl) T.f__law_asked.g T.f__law_asked.F.kp T.f__law_asked.b .nil pass0 (pa_cons (pv 11) (pa_cons (pv 3) (pa_cons (pv 12) (pa_cons (pv 13) pa_nil))))) (pv 14) (nomark _)) (pw_or1 (pt_cmpR op_ne (pe_call (ok__law_asked T) (hr.mono (by decide)) (by rfl) T.f__law_asked.g T.f__law_asked.F.kp T.f__law_asked.b .nil pass0 (pa_cons (pv 11) (pa_cons (pv 5) (pa_cons (pv 12) (pa_cons (pv 13) pa_nil))))) pe_str (nomark _))))) (pss_one (ps_ret pe_bl)) pss_nil)))
      (pss_one (ps_if (pt_cmpR op_ne (pe_callB (call_reprD hm hg hr.units) (by rfl) T.b_repr (by decide +kernel) (pa_cons (pe_lst (pa_cons (pv 3) (pa_cons (pv 5) (pa_cons (pv 9) pa_nil)))) pa_nil)) (pv 10) (nomark _)) (pss_one (ps_ret pe_bl)) pss_nil))))))))))))))))))
      (pss_one (ps_ret pe_bl)))), ?_⟩
  walk_at "rd"
  refine ⟨_, rfl, a, ns, rfl, hs, hlen, fun H1 p s1 fp spr => ?_⟩
  refine fr_rng1 ?_
  walk_at "rd"
  refine ⟨_, rfl, len_row (.inl (s1.seq hs)) ⟨_, _, rfl, ?_⟩⟩
  refine ⟨_, _, rfl, rfl, _, rfl, by split <;> omega, by split <;> omega, ForGo.range
    (fun i σ H2 => ∃ y2 y3 y4 y5 y6 y7 y8 y9 y10 y11 y12 y13 y14 y15 y16, σ = [some (.ref a), some (.ref p), y2, y3, y4, y5, y6, y7, y8, y9, y10, y11, y12, y13, y14, y15, y16] ∧ Go p H1 H2)
    ⟨_, _, _, _, _, _, _, _, _, _, _, _, _, _, _, rfl, Go.refl spr⟩ ?_ ?_⟩
  · rintro i σ H2 hi ⟨y2, y3, y4, y5, y6, y7, y8, y9, y10, y11, y12, y13, y14, y15, y16, rfl, g2⟩
    walk_at "rd"
    -- text
    refine ⟨_, rfl, _, _, rfl, rfl, ⟨by decide, by decide, by decide⟩, by show 2 ≤ sizeLine; decide, fun l2 nl2 => ⟨_, rfl, p, 2, rfl, (g2.same (same_upd nl2)).spr, by decide, by decide, fun H4 r g4 r0 r2 => ?_⟩⟩
    have hl2p : l2 ≠ p := g2.spr.ne nl2
    have kl2 := g4.keep _ _ hl2p (upd_same (H := H2) (a := l2) (o := .lst [V.int 4, V.int (10 ^ (20 : Int).toNat)]))
    obtain ⟨tm, htm, ht1, ht2⟩ : ∃ tm : Int, atI [V.int 4, V.int (10 ^ (20 : Int).toNat)] r = some (.int tm) ∧ 1 ≤ tm ∧ tm ≤ 100000000000000000000 := by
      have : r = 0 ∨ r = 1 := by omega
      rcases this with rfl | rfl
      · exact ⟨4, rfl, by decide, by decide⟩
      · exact ⟨_, rfl, by decide, by decide⟩
    have g4' := (g2.same (same_upd (o := .lst [V.int 4, V.int (10 ^ (20 : Int).toNat)]) nl2)).trans g4
    refine ix_lst kl2 htm ⟨p, 6, 9, tm, rfl, g4'.spr, by decide, by decide, by decide, by decide, by omega, Nat.lt_of_le_of_lt (show tm.natAbs ≤ 100000000000000000000 by omega) (by decide), fun H5 t ps g5 nt htx hpl hok => ?_⟩
    obtain ⟨hgd, hfar⟩ := okp_far (by omega) hok (by decide) (by decide) ht1 (by omega)
    have g15 := g4'.trans g5
    have h60 : ∀ x ∈ ps, x.1.length ≤ 60 := fun x hx => by have := (hok x hx).2.2.1; omega
    -- size
    obtain ⟨xs, hxs, hpx⟩ := htx.2
    have htp := htx.1
    have hyl := prd_len hpx
    refine lc_lst ⟨_, rfl, t, rfl, ⟨_, SqL.of hxs⟩, fun D nD => ?_⟩
    have hDt : D ≠ t := fun z => by rw [z, hxs] at nD; cases nD
    refine LcGo.list (a := t) (xs := xs) (fun j H' => Same H5 H' ∧ H' D = some (.lst ((ps.take j).map fun x => V.int ((x.1.length : Int) * (x.2 : Int))))) ⟨same_upd nD, upd_same⟩ (fun j H' _ h => SqL.of (h.1 _ _ hxs)) ?_ ?_
    · rintro j x H' hx ⟨s14, hD⟩
      obtain ⟨y, hy, b, rfl, hbp, hb⟩ := prd_at hpx hx
      have hym := List.mem_of_getElem? hy
      have hj := (List.getElem?_eq_some_iff.mp hy).1
      walk_at "rd"
      refine ⟨b, _, rfl, SqT.of (s14 _ _ hb), rfl, _, _, rfl, _, _, rfl, rfl, rfl, _, rfl, len_tx (by have := h60 y hym; omega) ⟨_, rfl, _, _, rfl, rfl, .inl ⟨by omega, by have := h60 y hym; omega⟩, ?_⟩⟩
      refine ⟨_, hD, ?_, same_mut s14 nD, ?_⟩
      · rw [List.length_map, List.length_take]
        exact Nat.lt_of_le_of_lt (show min j ps.length ≤ 40 by omega) (by decide)
      · rw [upd_same, List.take_add_one, hy, List.map_append]
        rfl
    rintro H6 ⟨s6, hD⟩
    rw [hyl, List.take_length] at hD
    have hsum := size_isum ps
    refine ⟨D, ps.map fun x => (x.1.length : Int) * (x.2 : Int), rfl, SqL.of (by rw [List.map_map]; exact hD), ?_⟩
    rw [hsum]
    have g16 := g15.same s6
    have htx6 := htx.go (.of_same g15.spr s6)
    have hats := htx6.ats (K := K) (s6 _ _ hxs) h60
    have hfd := fitD_of _ hfar.fits
    have hdd := hfar.deep
    have hbb := hfar.bulk
    have hzs : size ps ≤ 10 ^ 30 := by have := hgd.all; omega
    -- bad
    refine ⟨_, rfl, _, rfl, p, t, xs, (dOf ps).items, rfl, g16.spr, htp, s6 _ _ hxs, hats, fun d hd => pieces_dOf hgd d hd, ⟨hfd, by show deep (dOf ps) ≤ 60; omega, by show bulk (dOf ps) ≤ 300000; omega⟩, by show deep (dOf ps) ≤ 10; omega, hbb, fun H7 vb db g7 hvb hnb hneb hdb hbb7 => ?_⟩
    have g17 := g16.trans g7
    -- odd
    intro H8 us8 s8 hus8
    refine ⟨by rw [Ats.len hus8]; show 8 ≤ sizeLine; decide, fun a8 na8 => ⟨_, rfl, p, 8, rfl, (g17.same (s8.trans (same_upd na8))).spr, by decide, by decide, fun H9 r9 g9 r90 r98 => ?_⟩⟩
    have g18 := Go.of_same g17.spr (s8.trans (same_upd (o := .lst us8) na8))
    have ha8p : a8 ≠ p := (g17.same s8).spr.ne na8
    obtain ⟨sF, sS, sC, hps7, _⟩ := id g17.spr
    have hus8 := Ats.same (since_hid hps7) _ _ (Ats.same (since_mono (same_upd (o := .lst us8) na8)) _ _ hus8)
    have hus9 : Ats K (hid p H9) us8 _ := Ats.same g9.hid _ _ hus8
    obtain ⟨j9, rfl⟩ := Int.eq_ofNat_of_zero_le r90
    obtain ⟨dd, vd, hdd9, hvd9, hvd⟩ := las_lt hus9 (show j9 < 8 by omega) rfl
    obtain ⟨hd0, hdT⟩ := odd8 dd (List.mem_of_getElem? hdd9)
    refine ix_lst (g9.keep _ _ ha8p upd_same) (at_ofA (j := j9) rfl hvd9) ?_
    have g79 := g18.trans g9
    have g19 := g17.trans g79
    have hvb9 := At.same g79.hid _ _ hvb
    -- far
    refine ⟨_, rfl, _, _, rfl, rfl, ⟨by decide, by decide, by decide⟩, p, _, rfl, g19.spr, by decide, by decide, fun H10 r10 g10 r100 r10m => ⟨_, _, rfl, rfl, ?_⟩⟩
    refine ⟨by show 2 ≤ sizeLine; decide, fun l11 nl11 => ⟨_, rfl, p, 2, rfl, (g10.same (same_upd nl11)).spr, by decide, by decide, fun H12 r12 g12 r120 r122 => ?_⟩⟩
    have hl11p : l11 ≠ p := g10.spr.ne nl11
    have kl11 := g12.keep _ _ hl11p (upd_same (H := H10) (a := l11) (o := .lst [V.int 1, V.int (2 + r10)]))
    have r10m : r10 < 100000000000000000000 := r10m
    obtain ⟨fr, hfr, hf1, hf2⟩ : ∃ fr : Nat, atI [V.int 1, V.int (2 + r10)] r12 = some (.int (fr : Int)) ∧ 1 ≤ fr ∧ fr ≤ 10 ^ 30 := by
      have : r12 = 0 ∨ r12 = 1 := by omega
      rcases this with rfl | rfl
      · exact ⟨1, rfl, by decide, by decide⟩
      · refine ⟨(2 + r10).toNat, ?_, by omega, by omega⟩
        rw [show (((2 + r10).toNat : Nat) : Int) = 2 + r10 by omega]
        rfl
    refine ix_lst kl11 hfr ?_
    have g912 := (g10.same (same_upd (o := .lst [V.int 1, V.int (2 + r10)]) nl11)).trans g12
    have g112 := g19.trans g912
    have hvb12 := At.same g912.hid _ _ hvb9
    have hvd12 := At.same g912.hid _ _ hvd
    -- sign
    intro H13 us13 s13 hus13
    refine ⟨by rw [Ats.len hus13]; show 9 ≤ sizeLine; decide, fun a13 na13 => ⟨_, rfl, p, 9, rfl, (g112.same (s13.trans (same_upd na13))).spr, by decide, by decide, fun H14 r14 g14 r140 r149 => ?_⟩⟩
    have g13 := Go.of_same g112.spr (s13.trans (same_upd (o := .lst us13) na13))
    have ha13p : a13 ≠ p := (g112.same s13).spr.ne na13
    obtain ⟨tF, tS, tC', hps12, _⟩ := id g112.spr
    have hus13 := Ats.same (since_hid hps12) _ _ (Ats.same (since_mono (same_upd (o := .lst us13) na13)) _ _ hus13)
    have hus14 : Ats K (hid p H14) us13 _ := Ats.same g14.hid _ _ hus13
    obtain ⟨j14, rfl⟩ := Int.eq_ofNat_of_zero_le r140
    obtain ⟨dsg, vsg, hds14, hvs14, hvs⟩ := las_lt hus14 (show j14 < 9 by omega) rfl
    obtain ⟨hs0, hsT⟩ := sign9 dsg (List.mem_of_getElem? hds14)
    refine ix_lst (g14.keep _ _ ha13p upd_same) (at_ofA (j := j14) rfl hvs14) ?_
    have g1214 := g13.trans g14
    have g114 := g112.trans g1214
    have hvb14 := At.same g1214.hid _ _ hvb12
    have hvd14 := At.same g1214.hid _ _ hvd12
    have htx14 := htx6.go (((g7.trans g79).trans g912).trans g1214)
    have hvt14 : At K (hid p H14) (.ref t) (dOf ps) := htx14.hd.at h60
    obtain ⟨uF, uS, uC, hps14, _⟩ := id g114.spr
    have hzA : ((size ps : Nat) : Int).natAbs < 10 ^ 47 := Nat.lt_of_le_of_lt (show _ ≤ 10 ^ 30 by omega) (by decide)
    have hfA : ((fr : Nat) : Int).natAbs < 10 ^ 47 := Nat.lt_of_le_of_lt (show _ ≤ 10 ^ 30 by omega) (by decide)
    have re : ∀ {σ' : L2.St} {H' : Hp}, Same H14 H' → σ'[3]? = some (some (.ref t)) → σ'[4]? = some (some (.int ((size ps : Nat) : Int))) → σ'[5]? = some (some vb) → σ'[6]? = some (some vd) → σ'[7]? = some (some (.int (fr : Int))) → σ'[8]? = some (some vsg) →
        Slots K [3, 4, 5, 6, 7, 8] [4, 7] p (env5 (dOf ps) ((size ps : Nat) : Int) db dd (fr : Int) dsg) σ' H' := fun s h3 h4 h5 h6 h7 h8 =>
      slots5 (s _ _ hps14) h3 h4 h5 h6 h7 h8 (At.same (hid_mono s) _ _ hvt14) (At.same (hid_mono s) _ _ hvb14) (At.same (hid_mono s) _ _ hvd14) (At.same (hid_mono s) _ _ hvs) hzA hfA
    dsimp only [List.set]
    refine ⟨p, _, re (Same.refl _) rfl rfl rfl rfl rfl rfl, fun H15 vs15 a15 s15 na15 hv15 => ?_⟩
    have k15 := hid_new (p := p) (s15 _ _ hps14) na15 (u := .lst vs15)
    have e15 := s15.trans (same_upd (o := .lst vs15) na15)
    refine ⟨p, _, a15, vs15, _, re e15 rfl rfl rfl rfl rfl rfl, rfl, upd_same, Ats.same (hid_mono (same_upd na15)) _ _ hv15, by show 4 ≤ 10000; decide, fun H16 vs16 a16 s16 na16 hv16 => ?_⟩
    have e16 := (e15.trans s16).trans (same_upd (o := .lst vs16) na16)
    refine ⟨p, _, a16, vs16, _, re e16 rfl rfl rfl rfl rfl rfl, rfl, upd_same, Ats.same (hid_mono (same_upd na16)) _ _ hv16, by show 7 ≤ 10000; decide, fun H17 vs17 a17 s17 na17 hv17 => ?_⟩
    have e17 := (e16.trans s17).trans (same_upd (o := .lst vs17) na17)
    refine ⟨p, _, a17, vs17, _, re e17 rfl rfl rfl rfl rfl rfl, rfl, upd_same, Ats.same (hid_mono (same_upd na17)) _ _ hv17, by show 10 ≤ 10000; decide, fun H18 vs18 a18 s18 na18 hv18 => ?_⟩
    have e18 := (e17.trans s18).trans (same_upd (o := .lst vs18) na18)
    dsimp only [List.set]
    refine ⟨p, _, a18, vs18, _, re e18 rfl rfl rfl rfl rfl rfl, rfl, upd_same, Ats.same (hid_mono (same_upd na18)) _ _ hv18, by show 13 ≤ 10000; decide, fun H19 vs19 a19 s19 na19 hv19 => ?_⟩
    have e19 := (e18.trans s19).trans (same_upd (o := .lst vs19) na19)
    refine ⟨p, _, a19, vs19, _, re e19 rfl rfl rfl rfl rfl rfl, rfl, upd_same, Ats.same (hid_mono (same_upd na19)) _ _ hv19, by show 16 ≤ 10000; decide, fun H20 vs20 a20 s20 na20 hv20 => ?_⟩
    have e20 := (e19.trans s20).trans (same_upd (o := .lst vs20) na20)
    have hv20 : Ats K H20 vs20 (rows5 (dOf ps) ((size ps : Nat) : Int) db dd (fr : Int) dsg) := Ats.same (hid_same p _) _ _ hv20
    have hk20 := upd_same (H := H20) (a := a20) (o := .lst vs20)
    have hn14 : H14 a20 = none := (e19.trans s20).free na20
    have s201 := same_upd (o := .lst vs20) na20
    generalize upd H20 a20 (.lst vs20) = H21 at *
    clear hv15 hv16 hv17 hv18 hv19 e15 e16 e17 e18 e19 k15
    have mt : Mid (dOf ps) := ⟨hfd, by omega, by omega⟩
    have mb : Mid db := ⟨hneb.1, by omega, by omega⟩
    have hpcs : size (pcs (dOf ps)) = size ps := congrArg size (pcs_dOf ps)
    have hro := rows5_ok T hfar.text hpcs hnb hd0 hs0 hf1 hzs hf2 mt mb (Sma.tiny hdT) (Sma.tiny hsT)
    have hvt := At.same (hid_same p _) _ _ hvt14
    have hvb := At.same (hid_same p _) _ _ hvb14
    have hvd := At.same (hid_same p _) _ _ hvd14
    have hvs := At.same (hid_same p _) _ _ hvs
    clear re hvt14 hvb14 hvd14 htx14 hvb12 hvd12 hvb9 hus14 hus13 hus9 hus8
    dsimp only [List.set]
    refine ⟨_, rfl, _, _, rfl, rfl, _, rfl, ite2 ?b1 ?b2⟩
    case' b1 =>
      intro hz
      have hz : 0 < size ps := by have := of_decide_eq_true hz; omega
      have hrl := row_last T hfar.text hpcs hz hzs
      have hf := hid_frA e20 hn14
      refine ⟨_, rfl, .inl ⟨rfl, _, SqL.of hk20⟩, a20, _, slots5 hk20 rfl rfl rfl rfl rfl rfl (At.same hf _ _ hvt) (At.same hf _ _ hvb) (At.same hf _ _ hvd) (At.same hf _ _ hvs) hzA hfA, fun H22 v22 s22 hv22 => ⟨a20, vs20, _, rfl, rfl, s22 _ _ hk20, ?_, ?_⟩⟩
      · rw [Ats.len hv20]
        show 19 < sizeLine
        decide
      have hk := upd_same (H := H22) (a := a20) (o := .lst (vs20 ++ [v22]))
      have e22 := same_mut (o := .lst (vs20 ++ [v22])) (e20.trans s22) hn14
      have hat : Ats K _ (vs20 ++ [v22]) (rows5 (dOf ps) ((size ps : Nat) : Int) db dd (fr : Int) dsg ++ [Dt.tup [.int 0, .int (((size ps : Nat) : Int) - 1), .int 0, .str nNone]]) := las_app (Ats.same (same_mut (o := .lst (vs20 ++ [v22])) (s201.trans s22) na20) _ _ hv20) (las_cons (At.same (hid_mut (o := .lst (vs20 ++ [v22]))) _ _ hv22) las_nil)
      have hrw : ∀ d ∈ rows5 (dOf ps) ((size ps : Nat) : Int) db dd (fr : Int) dsg ++ [Dt.tup [.int 0, .int (((size ps : Nat) : Int) - 1), .int 0, .str nNone]], RowOk T (dOf ps) d := fun d hd => (List.mem_append.mp hd).elim (hro d) fun h => by rw [List.mem_singleton.mp h]; exact hrl
      have hln : (rows5 (dOf ps) ((size ps : Nat) : Int) db dd (fr : Int) dsg ++ [Dt.tup [.int 0, .int (((size ps : Nat) : Int) - 1), .int 0, .str nNone]]).length ≤ 25 := by show 20 ≤ 25; decide
      generalize rows5 (dOf ps) ((size ps : Nat) : Int) db dd (fr : Int) dsg ++ [Dt.tup [.int 0, .int (((size ps : Nat) : Int) - 1), .int 0, .str nNone]] = ds at *
      generalize vs20 ++ [v22] = xs at *
      generalize upd H22 a20 (.lst xs) = H23 at *
    case' b2 =>
      intro hz
      have hk := hk20
      have e22 := e20
      have hat := Ats.same s201 _ _ hv20
      have hrw := hro
      have hln : (rows5 (dOf ps) ((size ps : Nat) : Int) db dd (fr : Int) dsg).length ≤ 25 := by show 19 ≤ 25; decide
      generalize rows5 (dOf ps) ((size ps : Nat) : Int) db dd (fr : Int) dsg = ds at *
      generalize vs20 = xs at *
      generalize H21 = H23 at *
    all_goals
      have hvt := At.same e22 _ _ hvt
      have hvb := At.same e22 _ _ hvb
      have hnt := neat3 mt mb hln fun d hd => (hrw d hd).size
      refine ⟨_, rfl, _, rfl, _, rfl, by show 3 ≤ sizeLine; decide, fun c nc => ⟨c, .lst [dOf ps, db, .lst ds], rfl, la_lst upd_same (las_cons (At.same (same_upd nc) _ _ hvt) (las_cons (At.same (same_upd nc) _ _ hvb) (las_cons (At.same (same_upd nc) _ _ (la_lst hk hat)) las_nil))), hnt, ?_⟩⟩
      have sc := same_upd (o := .lst [V.ref t, vb, V.ref a20]) nc
      refine fr_list ?_
      walk_at "rd"
      refine ⟨_, rfl, a20, rfl, ⟨_, SqL.of (sc _ _ hk)⟩, ForGo.list (xs := xs) (fun j σ H2 => ∃ y11 y12 y13 y14, σ = [some (.ref a), some (.ref p), some (.int (0 + (i : Int))), some (.ref t), some (.int ((size ps : Nat) : Int)), some vb, some vd, some (.int (fr : Int)), some vsg, some (.ref a20), some (.str (shw (.lst [dOf ps, db, .lst ds]))), y11, y12, y13, y14, y15, y16] ∧ Same (upd H23 c (.lst [V.ref t, vb, V.ref a20])) H2)
        ⟨_, _, _, _, rfl, Same.refl _⟩ (fun j σ H2 _ h => by obtain ⟨_, _, _, _, _, s2⟩ := h; exact SqL.of (s2 _ _ (sc _ _ hk))) ?_ ?_⟩
      · rintro j x σ H24 hx ⟨y11, y12, y13, y14, rfl, s24⟩
        walk_at "rd"
        obtain ⟨d, hdj, hxd⟩ := Ats.at hat hx
        obtain ⟨ask, e, r, w, rfl, h5, hw10, hwc, hme, hsr, hdue⟩ := hrw d (List.mem_of_getElem? hdj)
        unfold At Ats Ats Ats Ats Ats at hxd
        obtain ⟨b, us, rfl, hsq, v0, us0, rfl, h0, v1, us1, rfl, h1, v2, us2, rfl, h2, v3, us3, rfl, h3, rfl⟩ := hxd
        unfold At at h0 h3
        subst h0
        obtain ⟨rfl, _⟩ := h3
        have s2 := sc.trans s24
        obtain ⟨DB, hDB⟩ := due_bad T hnb e r h5
        refine ⟨b, _, rfl, sameT s2 hsq, rfl, _, _, rfl, _, _, rfl, _, _, rfl, _, _, rfl, rfl, ?_⟩
        dsimp only [List.set]
        refine ⟨_, rfl, _, rfl, _, rfl, _, rfl, ask, _, _, _, _, e, r, rfl, At.same s2 _ _ hvt, At.same s2 _ _ h1, At.same s2 _ _ h2, ?_⟩
        rcases hdue with ⟨D, hd⟩ | ⟨hn, hf⟩
        case' inl => refine .inl ⟨D, _, hd, ?_⟩
        case' inr =>
          refine .inr ⟨hf, ?_⟩
          rw [← hn]
        all_goals
          intro H25 s25
          refine ⟨_, rfl, rfl, _, rfl, ?_⟩
          rw [show (!decide (V.str (tx w) = V.str (tx w))) = false by rw [decide_eq_true rfl]; rfl]
          have s3 := s2.trans s25
          refine iteF ⟨_, rfl, _, rfl, _, rfl, _, rfl, ask, _, _, _, db, e, r, rfl, At.same s3 _ _ hvb, At.same s3 _ _ h1, At.same s3 _ _ h2, .inl ⟨DB, _, hDB, ?_⟩⟩
          intro H26 s26
          refine ⟨rfl, _, rfl, ?_⟩
          rw [show (!decide (V.str "NoText" = V.str "NoText")) = false by rw [decide_eq_true rfl]; rfl]
          exact iteF ⟨_, _, _, _, rfl, (s24.trans s25).trans s26⟩
      · rintro σ H24 ⟨y11, y12, y13, y14, rfl, s24⟩
        walk_at "rd"
        refine ⟨_, rfl, _, rfl, _, rfl, by show 3 ≤ sizeLine; decide, fun c4 nc4 => ⟨c4, .lst [dOf ps, db, .lst ds], rfl, ?_, hnt, ?_⟩⟩
        · have s2 := (sc.trans s24).trans (same_upd (o := .lst [V.ref t, vb, V.ref a20]) nc4)
          exact la_lst upd_same (las_cons (At.same s2 _ _ hvt) (las_cons (At.same s2 _ _ hvb) (las_cons (At.same s2 _ _ (la_lst hk hat)) las_nil)))
        refine ⟨_, rfl, rfl, _, rfl, ?_⟩
        rw [show (!decide (V.str (shw (.lst [dOf ps, db, .lst ds])) = V.str (shw (.lst [dOf ps, db, .lst ds])))) = false by rw [decide_eq_true rfl]; rfl]
        exact iteF ⟨_, _, _, _, _, _, _, _, _, _, _, _, _, _, _, rfl, (g114.same e22).same ((sc.trans s24).trans (same_upd (o := .lst [V.ref t, vb, V.ref a20]) nc4))⟩
  · rintro σ H2 ⟨y2, y3, y4, y5, y6, y7, y8, y9, y10, y11, y12, y13, y14, y15, y16, rfl, g2⟩
    walk_at "rd"
    exact q _

end
theorem all_mk {l : PySem.W.OpenLaw} {w : World} {K : PySem.W.Frag} {h : Heap} {mg : Str → Option Value} {fa : Addr} (X : K.In h) (G : h.Ns mainGlobals mg) (hfa : mg "law" = some (.ref fa))
    {f0 : Addr} {od0 an0 : Option Addr} {sl0 : Array (Option Value)} {oc0 dc0 pm0 cd0 ct0 : Value} {kV0 : Value}
    {f1 : Addr} {od1 an1 : Option Addr} {sl1 : Array (Option Value)} {oc1 dc1 pm1 cd1 ct1 : Value} {kV1 : Value}
    {f2 : Addr} {od2 an2 : Option Addr} {sl2 : Array (Option Value)} {oc2 dc2 pm2 cd2 ct2 : Value} {kV2 : Value}
    {f3 : Addr} {od3 an3 : Option Addr} {sl3 : Array (Option Value)} {oc3 dc3 pm3 cd3 ct3 : Value} {kV3 : Value}
    {f4 : Addr} {od4 an4 : Option Addr} {sl4 : Array (Option Value)} {oc4 dc4 pm4 cd4 ct4 : Value} {kV4 : Value}
    {f5 : Addr} {od5 an5 : Option Addr} {sl5 : Array (Option Value)} {oc5 dc5 pm5 cd5 ct5 : Value} {kV5 : Value}
    {f6 : Addr} {od6 an6 : Option Addr} {sl6 : Array (Option Value)} {oc6 dc6 pm6 cd6 ct6 : Value} {kV6 : Value}
    {f7 : Addr} {od7 an7 : Option Addr} {sl7 : Array (Option Value)} {oc7 dc7 pm7 cd7 ct7 : Value} {kV7 : Value}
    {f8 : Addr} {od8 an8 : Option Addr} {sl8 : Array (Option Value)} {oc8 dc8 pm8 cd8 ct8 : Value} {kV8 : Value}
    {f9 : Addr} {od9 an9 : Option Addr} {sl9 : Array (Option Value)} {oc9 dc9 pm9 cd9 ct9 : Value} {kV9 : Value}
    {f10 : Addr} {od10 an10 : Option Addr} {sl10 : Array (Option Value)} {oc10 dc10 pm10 cd10 ct10 : Value} {kV10 : Value}
    {f11 : Addr} {od11 an11 : Option Addr} {sl11 : Array (Option Value)} {oc11 dc11 pm11 cd11 ct11 : Value} {kV11 : Value}
    {f12 : Addr} {od12 an12 : Option Addr} {sl12 : Array (Option Value)} {oc12 dc12 pm12 cd12 ct12 : Value} {kV12 : Value}
    {f13 : Addr} {od13 an13 : Option Addr} {sl13 : Array (Option Value)} {oc13 dc13 pm13 cd13 ct13 : Value} {kV13 : Value}
    {f14 : Addr} {od14 an14 : Option Addr} {sl14 : Array (Option Value)} {oc14 dc14 pm14 cd14 ct14 : Value} {kV14 : Value}
    {f15 : Addr} {od15 an15 : Option Addr} {sl15 : Array (Option Value)} {oc15 dc15 pm15 cd15 ct15 : Value} {kV15 : Value}
    {f16 : Addr} {od16 an16 : Option Addr} {sl16 : Array (Option Value)} {oc16 dc16 pm16 cd16 ct16 : Value} {kV16 : Value}
    {f17 : Addr} {od17 an17 : Option Addr} {sl17 : Array (Option Value)} {oc17 dc17 pm17 cd17 ct17 : Value} {kV17 : Value}
    {f18 : Addr} {od18 an18 : Option Addr} {sl18 : Array (Option Value)} {oc18 dc18 pm18 cd18 ct18 : Value} {kV18 : Value}
    {f19 : Addr} {od19 an19 : Option Addr} {sl19 : Array (Option Value)} {oc19 dc19 pm19 cd19 ct19 : Value} {kV19 : Value}
    {f20 : Addr} {od20 an20 : Option Addr} {sl20 : Array (Option Value)} {oc20 dc20 pm20 cd20 ct20 : Value} {kV20 : Value}
    {f21 : Addr} {od21 an21 : Option Addr} {sl21 : Array (Option Value)} {oc21 dc21 pm21 cd21 ct21 : Value} {kV21 : Value}
    {f22 : Addr} {od22 an22 : Option Addr} {sl22 : Array (Option Value)} {oc22 dc22 pm22 cd22 ct22 : Value} {kV22 : Value}
    {f23 : Addr} {od23 an23 : Option Addr} {sl23 : Array (Option Value)} {oc23 dc23 pm23 cd23 ct23 : Value} {kV23 : Value}
    {f24 : Addr} {od24 an24 : Option Addr} {sl24 : Array (Option Value)} {oc24 dc24 pm24 cd24 ct24 : Value} {kV24 : Value}
    {f25 : Addr} {od25 an25 : Option Addr} {sl25 : Array (Option Value)} {oc25 dc25 pm25 cd25 ct25 : Value} {kV25 : Value}
    {f26 : Addr} {od26 an26 : Option Addr} {sl26 : Array (Option Value)} {oc26 dc26 pm26 cd26 ct26 : Value} {kV26 : Value}
    {f27 : Addr} {od27 an27 : Option Addr} {sl27 : Array (Option Value)} {oc27 dc27 pm27 cd27 ct27 : Value} {kV27 : Value}
    {f28 : Addr} {od28 an28 : Option Addr} {sl28 : Array (Option Value)} {oc28 dc28 pm28 cd28 ct28 : Value} {kV28 : Value}
    {f29 : Addr} {od29 an29 : Option Addr} {sl29 : Array (Option Value)} {oc29 dc29 pm29 cd29 ct29 : Value} {kV29 : Value}
    {f30 : Addr} {od30 an30 : Option Addr} {sl30 : Array (Option Value)} {oc30 dc30 pm30 cd30 ct30 : Value} {kV30 : Value}
    {X_NoText : Addr}
    {X_NoLetter : Addr}
    {X_NoPlace : Addr}
    {X_NoNumber : Addr}
    {X_NoRings : Addr}
    {X_Full : Addr}
    {X_NoLengths : Addr}
    {X_NoName : Addr}
    {X_NoRow : Addr}
    {X_NoSeen : Addr}
    {X_Nothing : Addr}
    {X_NoWriting : Addr}
    {X_TooMany : Addr}
    {X_KeysError : Addr}
    {X_NoHand : Addr}
    {X_NoSheet : Addr}
    {X_NoTimes : Addr}
    {X_NoStand : Addr}
    {X_NoPlay : Addr}
    {t_ALPHABET : Tok}
    {t_LONGEST_LOOK : Tok}
    {t_LONGEST_WORD : Tok}
    {t_MOST_LETTERS : Tok}
    {t_MOST_PIECES : Tok}
    {t_TWO_WORDS : Tok}
    (a0 : PySem.W.nsIn K mainGlobals "is_row" = some (some (.ref f0))) (l0 : K.lookup f0 = some ⟨oc0, od0, .func (PySem.W.fnOf "is_row" "is_row" (defArgs s_is_row) (defBody s_is_row) (defScope s_is_row) .none kV0 dc0 pm0 an0 cd0 ct0), sl0⟩) (c0 : PySem.W.codeIn K cd0 "is_row" = true) (k0 : PySem.W.keepIn K (.ref f0) = true)
    (a1 : PySem.W.nsIn K mainGlobals "is_whole" = some (some (.ref f1))) (l1 : K.lookup f1 = some ⟨oc1, od1, .func (PySem.W.fnOf "is_whole" "is_whole" (defArgs s_is_whole) (defBody s_is_whole) (defScope s_is_whole) .none kV1 dc1 pm1 an1 cd1 ct1), sl1⟩) (c1 : PySem.W.codeIn K cd1 "is_whole" = true) (k1 : PySem.W.keepIn K (.ref f1) = true)
    (a2 : PySem.W.nsIn K mainGlobals "is_within" = some (some (.ref f2))) (l2 : K.lookup f2 = some ⟨oc2, od2, .func (PySem.W.fnOf "is_within" "is_within" (defArgs s_is_within) (defBody s_is_within) (defScope s_is_within) .none kV2 dc2 pm2 an2 cd2 ct2), sl2⟩) (c2 : PySem.W.codeIn K cd2 "is_within" = true) (k2 : PySem.W.keepIn K (.ref f2) = true)
    (a3 : PySem.W.nsIn K mainGlobals "is_plain" = some (some (.ref f3))) (l3 : K.lookup f3 = some ⟨oc3, od3, .func (PySem.W.fnOf "is_plain" "is_plain" (defArgs s_is_plain) (defBody s_is_plain) (defScope s_is_plain) .none kV3 dc3 pm3 an3 cd3 ct3), sl3⟩) (c3 : PySem.W.codeIn K cd3 "is_plain" = true) (k3 : PySem.W.keepIn K (.ref f3) = true)
    (a4 : PySem.W.nsIn K mainGlobals "is_letter" = some (some (.ref f4))) (l4 : K.lookup f4 = some ⟨oc4, od4, .func (PySem.W.fnOf "is_letter" "is_letter" (defArgs s_is_letter) (defBody s_is_letter) (defScope s_is_letter) .none kV4 dc4 pm4 an4 cd4 ct4), sl4⟩) (c4 : PySem.W.codeIn K cd4 "is_letter" = true) (k4 : PySem.W.keepIn K (.ref f4) = true)
    (a5 : PySem.W.nsIn K mainGlobals "is_clip" = some (some (.ref f5))) (l5 : K.lookup f5 = some ⟨oc5, od5, .func (PySem.W.fnOf "is_clip" "is_clip" (defArgs s_is_clip) (defBody s_is_clip) (defScope s_is_clip) .none kV5 dc5 pm5 an5 cd5 ct5), sl5⟩) (c5 : PySem.W.codeIn K cd5 "is_clip" = true) (k5 : PySem.W.keepIn K (.ref f5) = true)
    (a6 : PySem.W.nsIn K mainGlobals "is_word" = some (some (.ref f6))) (l6 : K.lookup f6 = some ⟨oc6, od6, .func (PySem.W.fnOf "is_word" "is_word" (defArgs s_is_word) (defBody s_is_word) (defScope s_is_word) .none kV6 dc6 pm6 an6 cd6 ct6), sl6⟩) (c6 : PySem.W.codeIn K cd6 "is_word" = true) (k6 : PySem.W.keepIn K (.ref f6) = true)
    (a7 : PySem.W.nsIn K mainGlobals "is_piece" = some (some (.ref f7))) (l7 : K.lookup f7 = some ⟨oc7, od7, .func (PySem.W.fnOf "is_piece" "is_piece" (defArgs s_is_piece) (defBody s_is_piece) (defScope s_is_piece) .none kV7 dc7 pm7 an7 cd7 ct7), sl7⟩) (c7 : PySem.W.codeIn K cd7 "is_piece" = true) (k7 : PySem.W.keepIn K (.ref f7) = true)
    (a8 : PySem.W.nsIn K mainGlobals "is_text" = some (some (.ref f8))) (l8 : K.lookup f8 = some ⟨oc8, od8, .func (PySem.W.fnOf "is_text" "is_text" (defArgs s_is_text) (defBody s_is_text) (defScope s_is_text) .none kV8 dc8 pm8 an8 cd8 ct8), sl8⟩) (c8 : PySem.W.codeIn K cd8 "is_text" = true) (k8 : PySem.W.keepIn K (.ref f8) = true)
    (a9 : PySem.W.nsIn K mainGlobals "check_text" = some (some (.ref f9))) (l9 : K.lookup f9 = some ⟨oc9, od9, .func (PySem.W.fnOf "check_text" "check_text" (defArgs s_check_text) (defBody s_check_text) (defScope s_check_text) .none kV9 dc9 pm9 an9 cd9 ct9), sl9⟩) (c9 : PySem.W.codeIn K cd9 "check_text" = true) (k9 : PySem.W.keepIn K (.ref f9) = true)
    (a10 : PySem.W.nsIn K mainGlobals "check_letter" = some (some (.ref f10))) (l10 : K.lookup f10 = some ⟨oc10, od10, .func (PySem.W.fnOf "check_letter" "check_letter" (defArgs s_check_letter) (defBody s_check_letter) (defScope s_check_letter) .none kV10 dc10 pm10 an10 cd10 ct10), sl10⟩) (c10 : PySem.W.codeIn K cd10 "check_letter" = true) (k10 : PySem.W.keepIn K (.ref f10) = true)
    (a11 : PySem.W.nsIn K mainGlobals "spans_of" = some (some (.ref f11))) (l11 : K.lookup f11 = some ⟨oc11, od11, .func (PySem.W.fnOf "spans_of" "spans_of" (defArgs s_spans_of) (defBody s_spans_of) (defScope s_spans_of) .none kV11 dc11 pm11 an11 cd11 ct11), sl11⟩) (c11 : PySem.W.codeIn K cd11 "spans_of" = true) (k11 : PySem.W.keepIn K (.ref f11) = true)
    (a12 : PySem.W.nsIn K mainGlobals "end_of" = some (some (.ref f12))) (l12 : K.lookup f12 = some ⟨oc12, od12, .func (PySem.W.fnOf "end_of" "end_of" (defArgs s_end_of) (defBody s_end_of) (defScope s_end_of) .none kV12 dc12 pm12 an12 cd12 ct12), sl12⟩) (c12 : PySem.W.codeIn K cd12 "end_of" = true) (k12 : PySem.W.keepIn K (.ref f12) = true)
    (a13 : PySem.W.nsIn K mainGlobals "stretch" = some (some (.ref f13))) (l13 : K.lookup f13 = some ⟨oc13, od13, .func (PySem.W.fnOf "stretch" "stretch" (defArgs s_stretch) (defBody s_stretch) (defScope s_stretch) .none kV13 dc13 pm13 an13 cd13 ct13), sl13⟩) (c13 : PySem.W.codeIn K cd13 "stretch" = true) (k13 : PySem.W.keepIn K (.ref f13) = true)
    (a14 : PySem.W.nsIn K mainGlobals "look" = some (some (.ref f14))) (l14 : K.lookup f14 = some ⟨oc14, od14, .func (PySem.W.fnOf "look" "look" (defArgs s_look) (defBody s_look) (defScope s_look) .none kV14 dc14 pm14 an14 cd14 ct14), sl14⟩) (c14 : PySem.W.codeIn K cd14 "look" = true) (k14 : PySem.W.keepIn K (.ref f14) = true)
    (a15 : PySem.W.nsIn K mainGlobals "among" = some (some (.ref f15))) (l15 : K.lookup f15 = some ⟨oc15, od15, .func (PySem.W.fnOf "among" "among" (defArgs s_among) (defBody s_among) (defScope s_among) .none kV15 dc15 pm15 an15 cd15 ct15), sl15⟩) (c15 : PySem.W.codeIn K cd15 "among" = true) (k15 : PySem.W.keepIn K (.ref f15) = true)
    (a16 : PySem.W.nsIn K mainGlobals "nth_again" = some (some (.ref f16))) (l16 : K.lookup f16 = some ⟨oc16, od16, .func (PySem.W.fnOf "nth_again" "nth_again" (defArgs s_nth_again) (defBody s_nth_again) (defScope s_nth_again) .none kV16 dc16 pm16 an16 cd16 ct16), sl16⟩) (c16 : PySem.W.codeIn K cd16 "nth_again" = true) (k16 : PySem.W.keepIn K (.ref f16) = true)
    (a17 : PySem.W.nsIn K mainGlobals "split_at" = some (some (.ref f17))) (l17 : K.lookup f17 = some ⟨oc17, od17, .func (PySem.W.fnOf "split_at" "split_at" (defArgs s_split_at) (defBody s_split_at) (defScope s_split_at) .none kV17 dc17 pm17 an17 cd17 ct17), sl17⟩) (c17 : PySem.W.codeIn K cd17 "split_at" = true) (k17 : PySem.W.keepIn K (.ref f17) = true)
    (a18 : PySem.W.nsIn K mainGlobals "letter" = some (some (.ref f18))) (l18 : K.lookup f18 = some ⟨oc18, od18, .func (PySem.W.fnOf "letter" "letter" (defArgs s_letter) (defBody s_letter) (defScope s_letter) .none kV18 dc18 pm18 an18 cd18 ct18), sl18⟩) (c18 : PySem.W.codeIn K cd18 "letter" = true) (k18 : PySem.W.keepIn K (.ref f18) = true)
    (a19 : PySem.W.nsIn K mainGlobals "looks" = some (some (.ref f19))) (l19 : K.lookup f19 = some ⟨oc19, od19, .func (PySem.W.fnOf "looks" "looks" (defArgs s_looks) (defBody s_looks) (defScope s_looks) .none kV19 dc19 pm19 an19 cd19 ct19), sl19⟩) (c19 : PySem.W.codeIn K cd19 "looks" = true) (k19 : PySem.W.keepIn K (.ref f19) = true)
    (a20 : PySem.W.nsIn K mainGlobals "count" = some (some (.ref f20))) (l20 : K.lookup f20 = some ⟨oc20, od20, .func (PySem.W.fnOf "count" "count" (defArgs s_count) (defBody s_count) (defScope s_count) .none kV20 dc20 pm20 an20 cd20 ct20), sl20⟩) (c20 : PySem.W.codeIn K cd20 "count" = true) (k20 : PySem.W.keepIn K (.ref f20) = true)
    (a21 : PySem.W.nsIn K mainGlobals "nth" = some (some (.ref f21))) (l21 : K.lookup f21 = some ⟨oc21, od21, .func (PySem.W.fnOf "nth" "nth" (defArgs s_nth) (defBody s_nth) (defScope s_nth) .none kV21 dc21 pm21 an21 cd21 ct21), sl21⟩) (c21 : PySem.W.codeIn K cd21 "nth" = true) (k21 : PySem.W.keepIn K (.ref f21) = true)
    (a22 : PySem.W.nsIn K mainGlobals "first_unlike" = some (some (.ref f22))) (l22 : K.lookup f22 = some ⟨oc22, od22, .func (PySem.W.fnOf "first_unlike" "first_unlike" (defArgs s_first_unlike) (defBody s_first_unlike) (defScope s_first_unlike) .none kV22 dc22 pm22 an22 cd22 ct22), sl22⟩) (c22 : PySem.W.codeIn K cd22 "first_unlike" = true) (k22 : PySem.W.keepIn K (.ref f22) = true)
    (a23 : PySem.W.nsIn K mainGlobals "_law_spring" = some (some (.ref f23))) (l23 : K.lookup f23 = some ⟨oc23, od23, .func (PySem.W.fnOf "_law_spring" "_law_spring" (defArgs s__law_spring) (defBody s__law_spring) (defScope s__law_spring) .none kV23 dc23 pm23 an23 cd23 ct23), sl23⟩) (c23 : PySem.W.codeIn K cd23 "_law_spring" = true) (k23 : PySem.W.keepIn K (.ref f23) = true)
    (a24 : PySem.W.nsIn K mainGlobals "_law_draw" = some (some (.ref f24))) (l24 : K.lookup f24 = some ⟨oc24, od24, .func (PySem.W.fnOf "_law_draw" "_law_draw" (defArgs s__law_draw) (defBody s__law_draw) (defScope s__law_draw) .none kV24 dc24 pm24 an24 cd24 ct24), sl24⟩) (c24 : PySem.W.codeIn K cd24 "_law_draw" = true) (k24 : PySem.W.keepIn K (.ref f24) = true)
    (a25 : PySem.W.nsIn K mainGlobals "_law_word" = some (some (.ref f25))) (l25 : K.lookup f25 = some ⟨oc25, od25, .func (PySem.W.fnOf "_law_word" "_law_word" (defArgs s__law_word) (defBody s__law_word) (defScope s__law_word) .none kV25 dc25 pm25 an25 cd25 ct25), sl25⟩) (c25 : PySem.W.codeIn K cd25 "_law_word" = true) (k25 : PySem.W.keepIn K (.ref f25) = true)
    (a26 : PySem.W.nsIn K mainGlobals "_law_text" = some (some (.ref f26))) (l26 : K.lookup f26 = some ⟨oc26, od26, .func (PySem.W.fnOf "_law_text" "_law_text" (defArgs s__law_text) (defBody s__law_text) (defScope s__law_text) .none kV26 dc26 pm26 an26 cd26 ct26), sl26⟩) (c26 : PySem.W.codeIn K cd26 "_law_text" = true) (k26 : PySem.W.keepIn K (.ref f26) = true)
    (a27 : PySem.W.nsIn K mainGlobals "_law_no_text" = some (some (.ref f27))) (l27 : K.lookup f27 = some ⟨oc27, od27, .func (PySem.W.fnOf "_law_no_text" "_law_no_text" (defArgs s__law_no_text) (defBody s__law_no_text) (defScope s__law_no_text) .none kV27 dc27 pm27 an27 cd27 ct27), sl27⟩) (c27 : PySem.W.codeIn K cd27 "_law_no_text" = true) (k27 : PySem.W.keepIn K (.ref f27) = true)
    (a28 : PySem.W.nsIn K mainGlobals "_law_which" = some (some (.ref f28))) (l28 : K.lookup f28 = some ⟨oc28, od28, .func (PySem.W.fnOf "_law_which" "_law_which" (defArgs s__law_which) (defBody s__law_which) (defScope s__law_which) .none kV28 dc28 pm28 an28 cd28 ct28), sl28⟩) (c28 : PySem.W.codeIn K cd28 "_law_which" = true) (k28 : PySem.W.keepIn K (.ref f28) = true)
    (a29 : PySem.W.nsIn K mainGlobals "_law_asked" = some (some (.ref f29))) (l29 : K.lookup f29 = some ⟨oc29, od29, .func (PySem.W.fnOf "_law_asked" "_law_asked" (defArgs s__law_asked) (defBody s__law_asked) (defScope s__law_asked) .none kV29 dc29 pm29 an29 cd29 ct29), sl29⟩) (c29 : PySem.W.codeIn K cd29 "_law_asked" = true) (k29 : PySem.W.keepIn K (.ref f29) = true)
    (a30 : PySem.W.nsIn K mainGlobals "law" = some (some (.ref f30))) (l30 : K.lookup f30 = some ⟨oc30, od30, .func (PySem.W.fnOf "law" "law" (defArgs s_law) (defBody s_law) (defScope s_law) .none kV30 dc30 pm30 an30 cd30 ct30), sl30⟩) (c30 : PySem.W.codeIn K cd30 "law" = true) (k30 : PySem.W.keepIn K (.ref f30) = true)
    (g_NoText : PySem.W.nsIn K mainGlobals "NoText" = some (some (.ref X_NoText))) (k_NoText : PySem.W.keepIn K (.ref X_NoText) = true) (h_NoText : PySem.W.hasDictIn K X_NoText = true) (t_NoText : PySem.W.typeIn K (.ref X_NoText) = some (.type "type")) (u_NoText : PySem.W.subIn K (.ref X_NoText) (.type "BaseException") = some true) (f_NoText : PySem.W.subIn K (.ref X_NoText) (.ref X_NoText) = some true)
    (g_NoLetter : PySem.W.nsIn K mainGlobals "NoLetter" = some (some (.ref X_NoLetter))) (k_NoLetter : PySem.W.keepIn K (.ref X_NoLetter) = true) (h_NoLetter : PySem.W.hasDictIn K X_NoLetter = true) (t_NoLetter : PySem.W.typeIn K (.ref X_NoLetter) = some (.type "type")) (u_NoLetter : PySem.W.subIn K (.ref X_NoLetter) (.type "BaseException") = some true) (f_NoLetter : PySem.W.subIn K (.ref X_NoLetter) (.ref X_NoLetter) = some true)
    (g_NoPlace : PySem.W.nsIn K mainGlobals "NoPlace" = some (some (.ref X_NoPlace))) (k_NoPlace : PySem.W.keepIn K (.ref X_NoPlace) = true) (h_NoPlace : PySem.W.hasDictIn K X_NoPlace = true) (t_NoPlace : PySem.W.typeIn K (.ref X_NoPlace) = some (.type "type")) (u_NoPlace : PySem.W.subIn K (.ref X_NoPlace) (.type "BaseException") = some true) (f_NoPlace : PySem.W.subIn K (.ref X_NoPlace) (.ref X_NoPlace) = some true)
    (g_NoNumber : PySem.W.nsIn K mainGlobals "NoNumber" = some (some (.ref X_NoNumber))) (k_NoNumber : PySem.W.keepIn K (.ref X_NoNumber) = true) (h_NoNumber : PySem.W.hasDictIn K X_NoNumber = true) (t_NoNumber : PySem.W.typeIn K (.ref X_NoNumber) = some (.type "type")) (u_NoNumber : PySem.W.subIn K (.ref X_NoNumber) (.type "BaseException") = some true) (f_NoNumber : PySem.W.subIn K (.ref X_NoNumber) (.ref X_NoNumber) = some true)
    (g_NoRings : PySem.W.nsIn K mainGlobals "NoRings" = some (some (.ref X_NoRings))) (k_NoRings : PySem.W.keepIn K (.ref X_NoRings) = true) (h_NoRings : PySem.W.hasDictIn K X_NoRings = true) (t_NoRings : PySem.W.typeIn K (.ref X_NoRings) = some (.type "type")) (u_NoRings : PySem.W.subIn K (.ref X_NoRings) (.type "BaseException") = some true) (f_NoRings : PySem.W.subIn K (.ref X_NoRings) (.ref X_NoRings) = some true)
    (g_Full : PySem.W.nsIn K mainGlobals "Full" = some (some (.ref X_Full))) (k_Full : PySem.W.keepIn K (.ref X_Full) = true) (h_Full : PySem.W.hasDictIn K X_Full = true) (t_Full : PySem.W.typeIn K (.ref X_Full) = some (.type "type")) (u_Full : PySem.W.subIn K (.ref X_Full) (.type "BaseException") = some true) (f_Full : PySem.W.subIn K (.ref X_Full) (.ref X_Full) = some true)
    (g_NoLengths : PySem.W.nsIn K mainGlobals "NoLengths" = some (some (.ref X_NoLengths))) (k_NoLengths : PySem.W.keepIn K (.ref X_NoLengths) = true) (h_NoLengths : PySem.W.hasDictIn K X_NoLengths = true) (t_NoLengths : PySem.W.typeIn K (.ref X_NoLengths) = some (.type "type")) (u_NoLengths : PySem.W.subIn K (.ref X_NoLengths) (.type "BaseException") = some true) (f_NoLengths : PySem.W.subIn K (.ref X_NoLengths) (.ref X_NoLengths) = some true)
    (g_NoName : PySem.W.nsIn K mainGlobals "NoName" = some (some (.ref X_NoName))) (k_NoName : PySem.W.keepIn K (.ref X_NoName) = true) (h_NoName : PySem.W.hasDictIn K X_NoName = true) (t_NoName : PySem.W.typeIn K (.ref X_NoName) = some (.type "type")) (u_NoName : PySem.W.subIn K (.ref X_NoName) (.type "BaseException") = some true) (f_NoName : PySem.W.subIn K (.ref X_NoName) (.ref X_NoName) = some true)
    (g_NoRow : PySem.W.nsIn K mainGlobals "NoRow" = some (some (.ref X_NoRow))) (k_NoRow : PySem.W.keepIn K (.ref X_NoRow) = true) (h_NoRow : PySem.W.hasDictIn K X_NoRow = true) (t_NoRow : PySem.W.typeIn K (.ref X_NoRow) = some (.type "type")) (u_NoRow : PySem.W.subIn K (.ref X_NoRow) (.type "BaseException") = some true) (f_NoRow : PySem.W.subIn K (.ref X_NoRow) (.ref X_NoRow) = some true)
    (g_NoSeen : PySem.W.nsIn K mainGlobals "NoSeen" = some (some (.ref X_NoSeen))) (k_NoSeen : PySem.W.keepIn K (.ref X_NoSeen) = true) (h_NoSeen : PySem.W.hasDictIn K X_NoSeen = true) (t_NoSeen : PySem.W.typeIn K (.ref X_NoSeen) = some (.type "type")) (u_NoSeen : PySem.W.subIn K (.ref X_NoSeen) (.type "BaseException") = some true) (f_NoSeen : PySem.W.subIn K (.ref X_NoSeen) (.ref X_NoSeen) = some true)
    (g_Nothing : PySem.W.nsIn K mainGlobals "Nothing" = some (some (.ref X_Nothing))) (k_Nothing : PySem.W.keepIn K (.ref X_Nothing) = true) (h_Nothing : PySem.W.hasDictIn K X_Nothing = true) (t_Nothing : PySem.W.typeIn K (.ref X_Nothing) = some (.type "type")) (u_Nothing : PySem.W.subIn K (.ref X_Nothing) (.type "BaseException") = some true) (f_Nothing : PySem.W.subIn K (.ref X_Nothing) (.ref X_Nothing) = some true)
    (g_NoWriting : PySem.W.nsIn K mainGlobals "NoWriting" = some (some (.ref X_NoWriting))) (k_NoWriting : PySem.W.keepIn K (.ref X_NoWriting) = true) (h_NoWriting : PySem.W.hasDictIn K X_NoWriting = true) (t_NoWriting : PySem.W.typeIn K (.ref X_NoWriting) = some (.type "type")) (u_NoWriting : PySem.W.subIn K (.ref X_NoWriting) (.type "BaseException") = some true) (f_NoWriting : PySem.W.subIn K (.ref X_NoWriting) (.ref X_NoWriting) = some true)
    (g_TooMany : PySem.W.nsIn K mainGlobals "TooMany" = some (some (.ref X_TooMany))) (k_TooMany : PySem.W.keepIn K (.ref X_TooMany) = true) (h_TooMany : PySem.W.hasDictIn K X_TooMany = true) (t_TooMany : PySem.W.typeIn K (.ref X_TooMany) = some (.type "type")) (u_TooMany : PySem.W.subIn K (.ref X_TooMany) (.type "BaseException") = some true) (f_TooMany : PySem.W.subIn K (.ref X_TooMany) (.ref X_TooMany) = some true)
    (g_KeysError : PySem.W.nsIn K mainGlobals "KeysError" = some (some (.ref X_KeysError))) (k_KeysError : PySem.W.keepIn K (.ref X_KeysError) = true) (h_KeysError : PySem.W.hasDictIn K X_KeysError = true) (t_KeysError : PySem.W.typeIn K (.ref X_KeysError) = some (.type "type")) (u_KeysError : PySem.W.subIn K (.ref X_KeysError) (.type "BaseException") = some true) (f_KeysError : PySem.W.subIn K (.ref X_KeysError) (.ref X_KeysError) = some true)
    (g_NoHand : PySem.W.nsIn K mainGlobals "NoHand" = some (some (.ref X_NoHand))) (k_NoHand : PySem.W.keepIn K (.ref X_NoHand) = true) (h_NoHand : PySem.W.hasDictIn K X_NoHand = true) (t_NoHand : PySem.W.typeIn K (.ref X_NoHand) = some (.type "type")) (u_NoHand : PySem.W.subIn K (.ref X_NoHand) (.type "BaseException") = some true) (f_NoHand : PySem.W.subIn K (.ref X_NoHand) (.ref X_NoHand) = some true)
    (g_NoSheet : PySem.W.nsIn K mainGlobals "NoSheet" = some (some (.ref X_NoSheet))) (k_NoSheet : PySem.W.keepIn K (.ref X_NoSheet) = true) (h_NoSheet : PySem.W.hasDictIn K X_NoSheet = true) (t_NoSheet : PySem.W.typeIn K (.ref X_NoSheet) = some (.type "type")) (u_NoSheet : PySem.W.subIn K (.ref X_NoSheet) (.type "BaseException") = some true) (f_NoSheet : PySem.W.subIn K (.ref X_NoSheet) (.ref X_NoSheet) = some true)
    (g_NoTimes : PySem.W.nsIn K mainGlobals "NoTimes" = some (some (.ref X_NoTimes))) (k_NoTimes : PySem.W.keepIn K (.ref X_NoTimes) = true) (h_NoTimes : PySem.W.hasDictIn K X_NoTimes = true) (t_NoTimes : PySem.W.typeIn K (.ref X_NoTimes) = some (.type "type")) (u_NoTimes : PySem.W.subIn K (.ref X_NoTimes) (.type "BaseException") = some true) (f_NoTimes : PySem.W.subIn K (.ref X_NoTimes) (.ref X_NoTimes) = some true)
    (g_NoStand : PySem.W.nsIn K mainGlobals "NoStand" = some (some (.ref X_NoStand))) (k_NoStand : PySem.W.keepIn K (.ref X_NoStand) = true) (h_NoStand : PySem.W.hasDictIn K X_NoStand = true) (t_NoStand : PySem.W.typeIn K (.ref X_NoStand) = some (.type "type")) (u_NoStand : PySem.W.subIn K (.ref X_NoStand) (.type "BaseException") = some true) (f_NoStand : PySem.W.subIn K (.ref X_NoStand) (.ref X_NoStand) = some true)
    (g_NoPlay : PySem.W.nsIn K mainGlobals "NoPlay" = some (some (.ref X_NoPlay))) (k_NoPlay : PySem.W.keepIn K (.ref X_NoPlay) = true) (h_NoPlay : PySem.W.hasDictIn K X_NoPlay = true) (t_NoPlay : PySem.W.typeIn K (.ref X_NoPlay) = some (.type "type")) (u_NoPlay : PySem.W.subIn K (.ref X_NoPlay) (.type "BaseException") = some true) (f_NoPlay : PySem.W.subIn K (.ref X_NoPlay) (.ref X_NoPlay) = some true)
    (nG : PySem.W.specialIn K (.builtin "object.__class__") "__get__" = some (some (.builtin "getset_descriptor.__get__"))) (nT : PySem.W.takesIn K (.builtin "object.__class__") = some true)
    (q_NoText : PySem.W.excIn K X_NoText [.type "ValueError", .type "Exception", .type "BaseException", .type "object"] "ValueError.__new__" = true) (o_NoText : PySem.W.findIn K (.ref X_NoText) "__getattribute__" = some (some (.builtin "BaseException.__getattribute__"))) (p_NoText : PySem.W.findIn K (.ref X_NoText) "__getattr__" = some none) (j_NoText : PySem.W.findIn K (.ref X_NoText) "__class__" = some (some (.builtin "object.__class__"))) (m_NoText : PySem.W.mroIn K X_NoText (.type "object") = some true) (w_NoText : PySem.W.subIn K (.ref X_NoText) (.type "ValueError") = some true)
    (s_NoText_NoLetter : PySem.W.subIn K (.ref X_NoText) (.ref X_NoLetter) = some false)
    (s_NoText_NoPlace : PySem.W.subIn K (.ref X_NoText) (.ref X_NoPlace) = some false)
    (s_NoText_NoNumber : PySem.W.subIn K (.ref X_NoText) (.ref X_NoNumber) = some false)
    (s_NoText_NoRings : PySem.W.subIn K (.ref X_NoText) (.ref X_NoRings) = some false)
    (s_NoText_Full : PySem.W.subIn K (.ref X_NoText) (.ref X_Full) = some false)
    (s_NoText_NoLengths : PySem.W.subIn K (.ref X_NoText) (.ref X_NoLengths) = some false)
    (s_NoText_NoName : PySem.W.subIn K (.ref X_NoText) (.ref X_NoName) = some false)
    (s_NoText_NoRow : PySem.W.subIn K (.ref X_NoText) (.ref X_NoRow) = some false)
    (s_NoText_NoSeen : PySem.W.subIn K (.ref X_NoText) (.ref X_NoSeen) = some false)
    (s_NoText_Nothing : PySem.W.subIn K (.ref X_NoText) (.ref X_Nothing) = some false)
    (s_NoText_NoWriting : PySem.W.subIn K (.ref X_NoText) (.ref X_NoWriting) = some false)
    (s_NoText_TooMany : PySem.W.subIn K (.ref X_NoText) (.ref X_TooMany) = some false)
    (s_NoText_KeysError : PySem.W.subIn K (.ref X_NoText) (.ref X_KeysError) = some true)
    (s_NoText_NoHand : PySem.W.subIn K (.ref X_NoText) (.ref X_NoHand) = some false)
    (s_NoText_NoSheet : PySem.W.subIn K (.ref X_NoText) (.ref X_NoSheet) = some false)
    (s_NoText_NoTimes : PySem.W.subIn K (.ref X_NoText) (.ref X_NoTimes) = some false)
    (s_NoText_NoStand : PySem.W.subIn K (.ref X_NoText) (.ref X_NoStand) = some false)
    (s_NoText_NoPlay : PySem.W.subIn K (.ref X_NoText) (.ref X_NoPlay) = some false)
    (q_NoLetter : PySem.W.excIn K X_NoLetter [.type "ValueError", .type "Exception", .type "BaseException", .type "object"] "ValueError.__new__" = true) (o_NoLetter : PySem.W.findIn K (.ref X_NoLetter) "__getattribute__" = some (some (.builtin "BaseException.__getattribute__"))) (p_NoLetter : PySem.W.findIn K (.ref X_NoLetter) "__getattr__" = some none) (j_NoLetter : PySem.W.findIn K (.ref X_NoLetter) "__class__" = some (some (.builtin "object.__class__"))) (m_NoLetter : PySem.W.mroIn K X_NoLetter (.type "object") = some true) (w_NoLetter : PySem.W.subIn K (.ref X_NoLetter) (.type "ValueError") = some true)
    (s_NoLetter_NoText : PySem.W.subIn K (.ref X_NoLetter) (.ref X_NoText) = some false)
    (s_NoLetter_NoPlace : PySem.W.subIn K (.ref X_NoLetter) (.ref X_NoPlace) = some false)
    (s_NoLetter_NoNumber : PySem.W.subIn K (.ref X_NoLetter) (.ref X_NoNumber) = some false)
    (s_NoLetter_NoRings : PySem.W.subIn K (.ref X_NoLetter) (.ref X_NoRings) = some false)
    (s_NoLetter_Full : PySem.W.subIn K (.ref X_NoLetter) (.ref X_Full) = some false)
    (s_NoLetter_NoLengths : PySem.W.subIn K (.ref X_NoLetter) (.ref X_NoLengths) = some false)
    (s_NoLetter_NoName : PySem.W.subIn K (.ref X_NoLetter) (.ref X_NoName) = some false)
    (s_NoLetter_NoRow : PySem.W.subIn K (.ref X_NoLetter) (.ref X_NoRow) = some false)
    (s_NoLetter_NoSeen : PySem.W.subIn K (.ref X_NoLetter) (.ref X_NoSeen) = some false)
    (s_NoLetter_Nothing : PySem.W.subIn K (.ref X_NoLetter) (.ref X_Nothing) = some false)
    (s_NoLetter_NoWriting : PySem.W.subIn K (.ref X_NoLetter) (.ref X_NoWriting) = some false)
    (s_NoLetter_TooMany : PySem.W.subIn K (.ref X_NoLetter) (.ref X_TooMany) = some false)
    (s_NoLetter_KeysError : PySem.W.subIn K (.ref X_NoLetter) (.ref X_KeysError) = some true)
    (s_NoLetter_NoHand : PySem.W.subIn K (.ref X_NoLetter) (.ref X_NoHand) = some false)
    (s_NoLetter_NoSheet : PySem.W.subIn K (.ref X_NoLetter) (.ref X_NoSheet) = some false)
    (s_NoLetter_NoTimes : PySem.W.subIn K (.ref X_NoLetter) (.ref X_NoTimes) = some false)
    (s_NoLetter_NoStand : PySem.W.subIn K (.ref X_NoLetter) (.ref X_NoStand) = some false)
    (s_NoLetter_NoPlay : PySem.W.subIn K (.ref X_NoLetter) (.ref X_NoPlay) = some false)
    (q_NoPlace : PySem.W.excIn K X_NoPlace [.type "ValueError", .type "Exception", .type "BaseException", .type "object"] "ValueError.__new__" = true) (o_NoPlace : PySem.W.findIn K (.ref X_NoPlace) "__getattribute__" = some (some (.builtin "BaseException.__getattribute__"))) (p_NoPlace : PySem.W.findIn K (.ref X_NoPlace) "__getattr__" = some none) (j_NoPlace : PySem.W.findIn K (.ref X_NoPlace) "__class__" = some (some (.builtin "object.__class__"))) (m_NoPlace : PySem.W.mroIn K X_NoPlace (.type "object") = some true) (w_NoPlace : PySem.W.subIn K (.ref X_NoPlace) (.type "ValueError") = some true)
    (s_NoPlace_NoText : PySem.W.subIn K (.ref X_NoPlace) (.ref X_NoText) = some false)
    (s_NoPlace_NoLetter : PySem.W.subIn K (.ref X_NoPlace) (.ref X_NoLetter) = some false)
    (s_NoPlace_NoNumber : PySem.W.subIn K (.ref X_NoPlace) (.ref X_NoNumber) = some false)
    (s_NoPlace_NoRings : PySem.W.subIn K (.ref X_NoPlace) (.ref X_NoRings) = some false)
    (s_NoPlace_Full : PySem.W.subIn K (.ref X_NoPlace) (.ref X_Full) = some false)
    (s_NoPlace_NoLengths : PySem.W.subIn K (.ref X_NoPlace) (.ref X_NoLengths) = some false)
    (s_NoPlace_NoName : PySem.W.subIn K (.ref X_NoPlace) (.ref X_NoName) = some false)
    (s_NoPlace_NoRow : PySem.W.subIn K (.ref X_NoPlace) (.ref X_NoRow) = some false)
    (s_NoPlace_NoSeen : PySem.W.subIn K (.ref X_NoPlace) (.ref X_NoSeen) = some false)
    (s_NoPlace_Nothing : PySem.W.subIn K (.ref X_NoPlace) (.ref X_Nothing) = some false)
    (s_NoPlace_NoWriting : PySem.W.subIn K (.ref X_NoPlace) (.ref X_NoWriting) = some false)
    (s_NoPlace_TooMany : PySem.W.subIn K (.ref X_NoPlace) (.ref X_TooMany) = some false)
    (s_NoPlace_KeysError : PySem.W.subIn K (.ref X_NoPlace) (.ref X_KeysError) = some true)
    (s_NoPlace_NoHand : PySem.W.subIn K (.ref X_NoPlace) (.ref X_NoHand) = some false)
    (s_NoPlace_NoSheet : PySem.W.subIn K (.ref X_NoPlace) (.ref X_NoSheet) = some false)
    (s_NoPlace_NoTimes : PySem.W.subIn K (.ref X_NoPlace) (.ref X_NoTimes) = some false)
    (s_NoPlace_NoStand : PySem.W.subIn K (.ref X_NoPlace) (.ref X_NoStand) = some false)
    (s_NoPlace_NoPlay : PySem.W.subIn K (.ref X_NoPlace) (.ref X_NoPlay) = some false)
    (q_NoNumber : PySem.W.excIn K X_NoNumber [.type "ValueError", .type "Exception", .type "BaseException", .type "object"] "ValueError.__new__" = true) (o_NoNumber : PySem.W.findIn K (.ref X_NoNumber) "__getattribute__" = some (some (.builtin "BaseException.__getattribute__"))) (p_NoNumber : PySem.W.findIn K (.ref X_NoNumber) "__getattr__" = some none) (j_NoNumber : PySem.W.findIn K (.ref X_NoNumber) "__class__" = some (some (.builtin "object.__class__"))) (m_NoNumber : PySem.W.mroIn K X_NoNumber (.type "object") = some true) (w_NoNumber : PySem.W.subIn K (.ref X_NoNumber) (.type "ValueError") = some true)
    (s_NoNumber_NoText : PySem.W.subIn K (.ref X_NoNumber) (.ref X_NoText) = some false)
    (s_NoNumber_NoLetter : PySem.W.subIn K (.ref X_NoNumber) (.ref X_NoLetter) = some false)
    (s_NoNumber_NoPlace : PySem.W.subIn K (.ref X_NoNumber) (.ref X_NoPlace) = some false)
    (s_NoNumber_NoRings : PySem.W.subIn K (.ref X_NoNumber) (.ref X_NoRings) = some false)
    (s_NoNumber_Full : PySem.W.subIn K (.ref X_NoNumber) (.ref X_Full) = some false)
    (s_NoNumber_NoLengths : PySem.W.subIn K (.ref X_NoNumber) (.ref X_NoLengths) = some false)
    (s_NoNumber_NoName : PySem.W.subIn K (.ref X_NoNumber) (.ref X_NoName) = some false)
    (s_NoNumber_NoRow : PySem.W.subIn K (.ref X_NoNumber) (.ref X_NoRow) = some false)
    (s_NoNumber_NoSeen : PySem.W.subIn K (.ref X_NoNumber) (.ref X_NoSeen) = some false)
    (s_NoNumber_Nothing : PySem.W.subIn K (.ref X_NoNumber) (.ref X_Nothing) = some false)
    (s_NoNumber_NoWriting : PySem.W.subIn K (.ref X_NoNumber) (.ref X_NoWriting) = some false)
    (s_NoNumber_TooMany : PySem.W.subIn K (.ref X_NoNumber) (.ref X_TooMany) = some false)
    (s_NoNumber_KeysError : PySem.W.subIn K (.ref X_NoNumber) (.ref X_KeysError) = some true)
    (s_NoNumber_NoHand : PySem.W.subIn K (.ref X_NoNumber) (.ref X_NoHand) = some false)
    (s_NoNumber_NoSheet : PySem.W.subIn K (.ref X_NoNumber) (.ref X_NoSheet) = some false)
    (s_NoNumber_NoTimes : PySem.W.subIn K (.ref X_NoNumber) (.ref X_NoTimes) = some false)
    (s_NoNumber_NoStand : PySem.W.subIn K (.ref X_NoNumber) (.ref X_NoStand) = some false)
    (s_NoNumber_NoPlay : PySem.W.subIn K (.ref X_NoNumber) (.ref X_NoPlay) = some false)
    (z_ValueError : PySem.W.nsIn K mainGlobals "ValueError" = some none)
    (z_abs : PySem.W.nsIn K mainGlobals "abs" = some none)
    (z_divmod : PySem.W.nsIn K mainGlobals "divmod" = some none)
    (z_int : PySem.W.nsIn K mainGlobals "int" = some none)
    (z_isinstance : PySem.W.nsIn K mainGlobals "isinstance" = some none)
    (z_len : PySem.W.nsIn K mainGlobals "len" = some none)
    (z_list : PySem.W.nsIn K mainGlobals "list" = some none)
    (z_max : PySem.W.nsIn K mainGlobals "max" = some none)
    (z_min : PySem.W.nsIn K mainGlobals "min" = some none)
    (z_range : PySem.W.nsIn K mainGlobals "range" = some none)
    (z_repr : PySem.W.nsIn K mainGlobals "repr" = some none)
    (z_sorted : PySem.W.nsIn K mainGlobals "sorted" = some none)
    (z_str : PySem.W.nsIn K mainGlobals "str" = some none)
    (z_sum : PySem.W.nsIn K mainGlobals "sum" = some none)
    (z_tuple : PySem.W.nsIn K mainGlobals "tuple" = some none)
    (z_type : PySem.W.nsIn K mainGlobals "type" = some none)
    (v_ALPHABET : PySem.W.nsIn K mainGlobals "ALPHABET" = some (some (.str "abcdefghijklmnopqrstuvwxyz" t_ALPHABET)))
    (v_LONGEST_LOOK : PySem.W.nsIn K mainGlobals "LONGEST_LOOK" = some (some (.int 2000 t_LONGEST_LOOK)))
    (v_LONGEST_WORD : PySem.W.nsIn K mainGlobals "LONGEST_WORD" = some (some (.int 60 t_LONGEST_WORD)))
    (v_MOST_LETTERS : PySem.W.nsIn K mainGlobals "MOST_LETTERS" = some (some (.int 1000000000000000000000000000000 t_MOST_LETTERS)))
    (v_MOST_PIECES : PySem.W.nsIn K mainGlobals "MOST_PIECES" = some (some (.int 40 t_MOST_PIECES)))
    (v_TWO_WORDS : PySem.W.nsIn K mainGlobals "TWO_WORDS" = some (some (.int 120 t_TWO_WORDS))) :
    ∃ fd : FuncData, (∀ (s : Shared) (v : Value), BindsTo s fd ⟨[v], []⟩ [("script", v)]) ∧ ∀ base : Heap, K.In base → base.Ns mainGlobals mg → Mods base → FnG l.prog w K mg base L2.CX0 9 fa fd ["script"] (spLaw K) := by
  have e := hfa.symm.trans (PySem.W.mg_of X G a30)
  cases e
  have F0 := fun_mk (st := s_is_row) l0 c0 k0
  have F1 := fun_mk (st := s_is_whole) l1 c1 k1
  have F2 := fun_mk (st := s_is_within) l2 c2 k2
  have F3 := fun_mk (st := s_is_plain) l3 c3 k3
  have F4 := fun_mk (st := s_is_letter) l4 c4 k4
  have F5 := fun_mk (st := s_is_clip) l5 c5 k5
  have F6 := fun_mk (st := s_is_word) l6 c6 k6
  have F7 := fun_mk (st := s_is_piece) l7 c7 k7
  have F8 := fun_mk (st := s_is_text) l8 c8 k8
  have F9 := fun_mk (st := s_check_text) l9 c9 k9
  have F10 := fun_mk (st := s_check_letter) l10 c10 k10
  have F11 := fun_mk (st := s_spans_of) l11 c11 k11
  have F12 := fun_mk (st := s_end_of) l12 c12 k12
  have F13 := fun_mk (st := s_stretch) l13 c13 k13
  have F14 := fun_mk (st := s_look) l14 c14 k14
  have F15 := fun_mk (st := s_among) l15 c15 k15
  have F16 := fun_mk (st := s_nth_again) l16 c16 k16
  have F17 := fun_mk (st := s_split_at) l17 c17 k17
  have F18 := fun_mk (st := s_letter) l18 c18 k18
  have F19 := fun_mk (st := s_looks) l19 c19 k19
  have F20 := fun_mk (st := s_count) l20 c20 k20
  have F21 := fun_mk (st := s_nth) l21 c21 k21
  have F22 := fun_mk (st := s_first_unlike) l22 c22 k22
  have F23 := fun_mk (st := s__law_spring) l23 c23 k23
  have F24 := fun_mk (st := s__law_draw) l24 c24 k24
  have F25 := fun_mk (st := s__law_word) l25 c25 k25
  have F26 := fun_mk (st := s__law_text) l26 c26 k26
  have F27 := fun_mk (st := s__law_no_text) l27 c27 k27
  have F28 := fun_mk (st := s__law_which) l28 c28 k28
  have F29 := fun_mk (st := s__law_asked) l29 c29 k29
  have F30 := fun_mk (st := s_law) l30 c30 k30
  let x_NoText : ExT K mg "NoText" := ⟨X_NoText, PySem.W.mg_of X G g_NoText, k_NoText, h_NoText, t_NoText, u_NoText, f_NoText⟩
  let x_NoLetter : ExT K mg "NoLetter" := ⟨X_NoLetter, PySem.W.mg_of X G g_NoLetter, k_NoLetter, h_NoLetter, t_NoLetter, u_NoLetter, f_NoLetter⟩
  let x_NoPlace : ExT K mg "NoPlace" := ⟨X_NoPlace, PySem.W.mg_of X G g_NoPlace, k_NoPlace, h_NoPlace, t_NoPlace, u_NoPlace, f_NoPlace⟩
  let x_NoNumber : ExT K mg "NoNumber" := ⟨X_NoNumber, PySem.W.mg_of X G g_NoNumber, k_NoNumber, h_NoNumber, t_NoNumber, u_NoNumber, f_NoNumber⟩
  let x_NoRings : ExT K mg "NoRings" := ⟨X_NoRings, PySem.W.mg_of X G g_NoRings, k_NoRings, h_NoRings, t_NoRings, u_NoRings, f_NoRings⟩
  let x_Full : ExT K mg "Full" := ⟨X_Full, PySem.W.mg_of X G g_Full, k_Full, h_Full, t_Full, u_Full, f_Full⟩
  let x_NoLengths : ExT K mg "NoLengths" := ⟨X_NoLengths, PySem.W.mg_of X G g_NoLengths, k_NoLengths, h_NoLengths, t_NoLengths, u_NoLengths, f_NoLengths⟩
  let x_NoName : ExT K mg "NoName" := ⟨X_NoName, PySem.W.mg_of X G g_NoName, k_NoName, h_NoName, t_NoName, u_NoName, f_NoName⟩
  let x_NoRow : ExT K mg "NoRow" := ⟨X_NoRow, PySem.W.mg_of X G g_NoRow, k_NoRow, h_NoRow, t_NoRow, u_NoRow, f_NoRow⟩
  let x_NoSeen : ExT K mg "NoSeen" := ⟨X_NoSeen, PySem.W.mg_of X G g_NoSeen, k_NoSeen, h_NoSeen, t_NoSeen, u_NoSeen, f_NoSeen⟩
  let x_Nothing : ExT K mg "Nothing" := ⟨X_Nothing, PySem.W.mg_of X G g_Nothing, k_Nothing, h_Nothing, t_Nothing, u_Nothing, f_Nothing⟩
  let x_NoWriting : ExT K mg "NoWriting" := ⟨X_NoWriting, PySem.W.mg_of X G g_NoWriting, k_NoWriting, h_NoWriting, t_NoWriting, u_NoWriting, f_NoWriting⟩
  let x_TooMany : ExT K mg "TooMany" := ⟨X_TooMany, PySem.W.mg_of X G g_TooMany, k_TooMany, h_TooMany, t_TooMany, u_TooMany, f_TooMany⟩
  let x_KeysError : ExT K mg "KeysError" := ⟨X_KeysError, PySem.W.mg_of X G g_KeysError, k_KeysError, h_KeysError, t_KeysError, u_KeysError, f_KeysError⟩
  let x_NoHand : ExT K mg "NoHand" := ⟨X_NoHand, PySem.W.mg_of X G g_NoHand, k_NoHand, h_NoHand, t_NoHand, u_NoHand, f_NoHand⟩
  let x_NoSheet : ExT K mg "NoSheet" := ⟨X_NoSheet, PySem.W.mg_of X G g_NoSheet, k_NoSheet, h_NoSheet, t_NoSheet, u_NoSheet, f_NoSheet⟩
  let x_NoTimes : ExT K mg "NoTimes" := ⟨X_NoTimes, PySem.W.mg_of X G g_NoTimes, k_NoTimes, h_NoTimes, t_NoTimes, u_NoTimes, f_NoTimes⟩
  let x_NoStand : ExT K mg "NoStand" := ⟨X_NoStand, PySem.W.mg_of X G g_NoStand, k_NoStand, h_NoStand, t_NoStand, u_NoStand, f_NoStand⟩
  let x_NoPlay : ExT K mg "NoPlay" := ⟨X_NoPlay, PySem.W.mg_of X G g_NoPlay, k_NoPlay, h_NoPlay, t_NoPlay, u_NoPlay, f_NoPlay⟩
  let r_NoText : RzT K X_NoText := ⟨q_NoText, ⟨o_NoText, p_NoText, u_NoText, h_NoText, j_NoText, nG, nT, m_NoText⟩, t_NoText, w_NoText⟩
  let r_NoLetter : RzT K X_NoLetter := ⟨q_NoLetter, ⟨o_NoLetter, p_NoLetter, u_NoLetter, h_NoLetter, j_NoLetter, nG, nT, m_NoLetter⟩, t_NoLetter, w_NoLetter⟩
  let r_NoPlace : RzT K X_NoPlace := ⟨q_NoPlace, ⟨o_NoPlace, p_NoPlace, u_NoPlace, h_NoPlace, j_NoPlace, nG, nT, m_NoPlace⟩, t_NoPlace, w_NoPlace⟩
  let r_NoNumber : RzT K X_NoNumber := ⟨q_NoNumber, ⟨o_NoNumber, p_NoNumber, u_NoNumber, h_NoNumber, j_NoNumber, nG, nT, m_NoNumber⟩, t_NoNumber, w_NoNumber⟩
  let T : Txt K mg := ⟨⟨f0, _, F0, PySem.W.mg_of X G a0, F0.binds (ps := ["thing"]) fun _ _ _ _ _ _ us hl => match us, hl with | [_], _ => rfl⟩,
    ⟨f1, _, F1, PySem.W.mg_of X G a1, F1.binds (ps := ["thing", "low"]) fun _ _ _ _ _ _ us hl => match us, hl with | [_, _], _ => rfl⟩,
    ⟨f2, _, F2, PySem.W.mg_of X G a2, F2.binds (ps := ["thing", "low", "high"]) fun _ _ _ _ _ _ us hl => match us, hl with | [_, _, _], _ => rfl⟩,
    ⟨f3, _, F3, PySem.W.mg_of X G a3, F3.binds (ps := ["thing"]) fun _ _ _ _ _ _ us hl => match us, hl with | [_], _ => rfl⟩,
    ⟨f4, _, F4, PySem.W.mg_of X G a4, F4.binds (ps := ["thing"]) fun _ _ _ _ _ _ us hl => match us, hl with | [_], _ => rfl⟩,
    ⟨f5, _, F5, PySem.W.mg_of X G a5, F5.binds (ps := ["thing"]) fun _ _ _ _ _ _ us hl => match us, hl with | [_], _ => rfl⟩,
    ⟨f6, _, F6, PySem.W.mg_of X G a6, F6.binds (ps := ["thing"]) fun _ _ _ _ _ _ us hl => match us, hl with | [_], _ => rfl⟩,
    ⟨f7, _, F7, PySem.W.mg_of X G a7, F7.binds (ps := ["thing"]) fun _ _ _ _ _ _ us hl => match us, hl with | [_], _ => rfl⟩,
    ⟨f8, _, F8, PySem.W.mg_of X G a8, F8.binds (ps := ["thing"]) fun _ _ _ _ _ _ us hl => match us, hl with | [_], _ => rfl⟩,
    ⟨f9, _, F9, PySem.W.mg_of X G a9, F9.binds (ps := ["thing"]) fun _ _ _ _ _ _ us hl => match us, hl with | [_], _ => rfl⟩,
    ⟨f10, _, F10, PySem.W.mg_of X G a10, F10.binds (ps := ["thing"]) fun _ _ _ _ _ _ us hl => match us, hl with | [_], _ => rfl⟩,
    ⟨f11, _, F11, PySem.W.mg_of X G a11, F11.binds (ps := ["text"]) fun _ _ _ _ _ _ us hl => match us, hl with | [_], _ => rfl⟩,
    ⟨f12, _, F12, PySem.W.mg_of X G a12, F12.binds (ps := ["spans"]) fun _ _ _ _ _ _ us hl => match us, hl with | [_], _ => rfl⟩,
    ⟨f13, _, F13, PySem.W.mg_of X G a13, F13.binds (ps := ["word", "at", "many"]) fun _ _ _ _ _ _ us hl => match us, hl with | [_, _, _], _ => rfl⟩,
    ⟨f14, _, F14, PySem.W.mg_of X G a14, F14.binds (ps := ["spans", "place", "many"]) fun _ _ _ _ _ _ us hl => match us, hl with | [_, _, _], _ => rfl⟩,
    ⟨f15, _, F15, PySem.W.mg_of X G a15, F15.binds (ps := ["word", "sign", "many"]) fun _ _ _ _ _ _ us hl => match us, hl with | [_, _, _], _ => rfl⟩,
    ⟨f16, _, F16, PySem.W.mg_of X G a16, F16.binds (ps := ["word", "sign", "number"]) fun _ _ _ _ _ _ us hl => match us, hl with | [_, _, _], _ => rfl⟩,
    ⟨f17, _, F17, PySem.W.mg_of X G a17, F17.binds (ps := ["one", "other"]) fun _ _ _ _ _ _ us hl => match us, hl with | [_, _], _ => rfl⟩,
    ⟨f18, _, F18, PySem.W.mg_of X G a18, F18.binds (ps := ["text", "place"]) fun _ _ _ _ _ _ us hl => match us, hl with | [_, _], _ => rfl⟩,
    ⟨f19, _, F19, PySem.W.mg_of X G a19, F19.binds (ps := ["text", "place", "many"]) fun _ _ _ _ _ _ us hl => match us, hl with | [_, _, _], _ => rfl⟩,
    ⟨f20, _, F20, PySem.W.mg_of X G a20, F20.binds (ps := ["text", "sign", "many"]) fun _ _ _ _ _ _ us hl => match us, hl with | [_, _, _], _ => rfl⟩,
    ⟨f21, _, F21, PySem.W.mg_of X G a21, F21.binds (ps := ["text", "sign", "number"]) fun _ _ _ _ _ _ us hl => match us, hl with | [_, _, _], _ => rfl⟩,
    ⟨f22, _, F22, PySem.W.mg_of X G a22, F22.binds (ps := ["text", "other"]) fun _ _ _ _ _ _ us hl => match us, hl with | [_, _], _ => rfl⟩,
    ⟨f23, _, F23, PySem.W.mg_of X G a23, F23.binds (ps := ["script"]) fun _ _ _ _ _ _ us hl => match us, hl with | [_], _ => rfl⟩,
    ⟨f24, _, F24, PySem.W.mg_of X G a24, F24.binds (ps := ["spring", "many"]) fun _ _ _ _ _ _ us hl => match us, hl with | [_, _], _ => rfl⟩,
    ⟨f25, _, F25, PySem.W.mg_of X G a25, F25.binds (ps := ["spring", "most"]) fun _ _ _ _ _ _ us hl => match us, hl with | [_, _], _ => rfl⟩,
    ⟨f26, _, F26, PySem.W.mg_of X G a26, F26.binds (ps := ["spring", "most", "wide", "times"]) fun _ _ _ _ _ _ us hl => match us, hl with | [_, _, _, _], _ => rfl⟩,
    ⟨f27, _, F27, PySem.W.mg_of X G a27, F27.binds (ps := ["spring", "text"]) fun _ _ _ _ _ _ us hl => match us, hl with | [_, _], _ => rfl⟩,
    ⟨f28, _, F28, PySem.W.mg_of X G a28, F28.binds (ps := ["caught"]) fun _ _ _ _ _ _ us hl => match us, hl with | [_], _ => rfl⟩,
    ⟨f29, _, F29, PySem.W.mg_of X G a29, F29.binds (ps := ["ask", "text", "one", "other"]) fun _ _ _ _ _ _ us hl => match us, hl with | [_, _, _, _], _ => rfl⟩,
    ⟨fa, _, F30, PySem.W.mg_of X G a30, F30.binds (ps := ["script"]) fun _ _ _ _ _ _ us hl => match us, hl with | [_], _ => rfl⟩,
    PySem.W.mg_none_of X G z_ValueError,
    PySem.W.mg_none_of X G z_abs,
    PySem.W.mg_none_of X G z_divmod,
    PySem.W.mg_none_of X G z_int,
    PySem.W.mg_none_of X G z_isinstance,
    PySem.W.mg_none_of X G z_len,
    PySem.W.mg_none_of X G z_list,
    PySem.W.mg_none_of X G z_max,
    PySem.W.mg_none_of X G z_min,
    PySem.W.mg_none_of X G z_range,
    PySem.W.mg_none_of X G z_repr,
    PySem.W.mg_none_of X G z_sorted,
    PySem.W.mg_none_of X G z_str,
    PySem.W.mg_none_of X G z_sum,
    PySem.W.mg_none_of X G z_tuple,
    PySem.W.mg_none_of X G z_type,
    x_NoText,
    x_NoLetter,
    x_NoPlace,
    x_NoNumber,
    x_NoRings,
    x_Full,
    x_NoLengths,
    x_NoName,
    x_NoRow,
    x_NoSeen,
    x_Nothing,
    x_NoWriting,
    x_TooMany,
    x_KeysError,
    x_NoHand,
    x_NoSheet,
    x_NoTimes,
    x_NoStand,
    x_NoPlay,
    r_NoText,
    r_NoLetter,
    r_NoPlace,
    r_NoNumber,
    s_NoText_NoLetter,
    s_NoText_NoPlace,
    s_NoText_NoNumber,
    s_NoText_NoRings,
    s_NoText_Full,
    s_NoText_NoLengths,
    s_NoText_NoName,
    s_NoText_NoRow,
    s_NoText_NoSeen,
    s_NoText_Nothing,
    s_NoText_NoWriting,
    s_NoText_TooMany,
    s_NoText_KeysError,
    s_NoText_NoHand,
    s_NoText_NoSheet,
    s_NoText_NoTimes,
    s_NoText_NoStand,
    s_NoText_NoPlay,
    s_NoLetter_NoText,
    s_NoLetter_NoPlace,
    s_NoLetter_NoNumber,
    s_NoLetter_NoRings,
    s_NoLetter_Full,
    s_NoLetter_NoLengths,
    s_NoLetter_NoName,
    s_NoLetter_NoRow,
    s_NoLetter_NoSeen,
    s_NoLetter_Nothing,
    s_NoLetter_NoWriting,
    s_NoLetter_TooMany,
    s_NoLetter_KeysError,
    s_NoLetter_NoHand,
    s_NoLetter_NoSheet,
    s_NoLetter_NoTimes,
    s_NoLetter_NoStand,
    s_NoLetter_NoPlay,
    s_NoPlace_NoText,
    s_NoPlace_NoLetter,
    s_NoPlace_NoNumber,
    s_NoPlace_NoRings,
    s_NoPlace_Full,
    s_NoPlace_NoLengths,
    s_NoPlace_NoName,
    s_NoPlace_NoRow,
    s_NoPlace_NoSeen,
    s_NoPlace_Nothing,
    s_NoPlace_NoWriting,
    s_NoPlace_TooMany,
    s_NoPlace_KeysError,
    s_NoPlace_NoHand,
    s_NoPlace_NoSheet,
    s_NoPlace_NoTimes,
    s_NoPlace_NoStand,
    s_NoPlace_NoPlay,
    s_NoNumber_NoText,
    s_NoNumber_NoLetter,
    s_NoNumber_NoPlace,
    s_NoNumber_NoRings,
    s_NoNumber_Full,
    s_NoNumber_NoLengths,
    s_NoNumber_NoName,
    s_NoNumber_NoRow,
    s_NoNumber_NoSeen,
    s_NoNumber_Nothing,
    s_NoNumber_NoWriting,
    s_NoNumber_TooMany,
    s_NoNumber_KeysError,
    s_NoNumber_NoHand,
    s_NoNumber_NoSheet,
    s_NoNumber_NoTimes,
    s_NoNumber_NoStand,
    s_NoNumber_NoPlay,
    ⟨_, PySem.W.mg_of X G v_ALPHABET⟩,
    ⟨_, PySem.W.mg_of X G v_LONGEST_LOOK⟩,
    ⟨_, PySem.W.mg_of X G v_LONGEST_WORD⟩,
    ⟨_, PySem.W.mg_of X G v_MOST_LETTERS⟩,
    ⟨_, PySem.W.mg_of X G v_MOST_PIECES⟩,
    ⟨_, PySem.W.mg_of X G v_TWO_WORDS⟩⟩
  exact ⟨T.f_law.fd, fun s v => .of_eq rfl, fun base _ _ hm => ok_law T hm⟩
end BK
open PySem PySem.W PyProof.Rows
set_option maxRecDepth 100000 in
set_option maxHeartbeats 0 in
theorem PySem.Challenge.cw_blindkeys_k05_texts_refused_holds : PySem.Challenge.rw_blindkeys_k05_texts_refused.Holds := by
  w_on; o_law; k_head; (case hw => w_witness2)
  k_fill
  refine BK.walk_G (l := PySem.Challenge.rw_blindkeys_k05_texts_refused) (n := 63) (k := 9) (x := "script") (C := fun _ => L2.CX0) (sp := fun w => BK.spLaw _) rfl (by decide) (by decide +kernel) rfl ⟨rfl, by decide, by decide⟩ (fun w h Y => PySem.W.kIn_of Y) ?F (fun _ _ a ns hl _ hS => ⟨a, ns, rfl, hS, hl, fun _ => rfl⟩) (fun _ _ _ _ _ h => h)
  case F =>
    intro w mg fa h KX G hmg
    refine' BK.all_mk KX G hmg ?a0 ?l0 ?c0 ?k0 ?a1 ?l1 ?c1 ?k1 ?a2 ?l2 ?c2 ?k2 ?a3 ?l3 ?c3 ?k3 ?a4 ?l4 ?c4 ?k4 ?a5 ?l5 ?c5 ?k5 ?a6 ?l6 ?c6 ?k6 ?a7 ?l7 ?c7 ?k7 ?a8 ?l8 ?c8 ?k8 ?a9 ?l9 ?c9 ?k9 ?a10 ?l10 ?c10 ?k10 ?a11 ?l11 ?c11 ?k11 ?a12 ?l12 ?c12 ?k12 ?a13 ?l13 ?c13 ?k13 ?a14 ?l14 ?c14 ?k14 ?a15 ?l15 ?c15 ?k15 ?a16 ?l16 ?c16 ?k16 ?a17 ?l17 ?c17 ?k17 ?a18 ?l18 ?c18 ?k18 ?a19 ?l19 ?c19 ?k19 ?a20 ?l20 ?c20 ?k20 ?a21 ?l21 ?c21 ?k21 ?a22 ?l22 ?c22 ?k22 ?a23 ?l23 ?c23 ?k23 ?a24 ?l24 ?c24 ?k24 ?a25 ?l25 ?c25 ?k25 ?a26 ?l26 ?c26 ?k26 ?a27 ?l27 ?c27 ?k27 ?a28 ?l28 ?c28 ?k28 ?a29 ?l29 ?c29 ?k29 ?a30 ?l30 ?c30 ?k30 ?g_NoText ?k_NoText ?h_NoText ?t_NoText ?u_NoText ?f_NoText ?g_NoLetter ?k_NoLetter ?h_NoLetter ?t_NoLetter ?u_NoLetter ?f_NoLetter ?g_NoPlace ?k_NoPlace ?h_NoPlace ?t_NoPlace ?u_NoPlace ?f_NoPlace ?g_NoNumber ?k_NoNumber ?h_NoNumber ?t_NoNumber ?u_NoNumber ?f_NoNumber ?g_NoRings ?k_NoRings ?h_NoRings ?t_NoRings ?u_NoRings ?f_NoRings ?g_Full ?k_Full ?h_Full ?t_Full ?u_Full ?f_Full ?g_NoLengths ?k_NoLengths ?h_NoLengths ?t_NoLengths ?u_NoLengths ?f_NoLengths ?g_NoName ?k_NoName ?h_NoName ?t_NoName ?u_NoName ?f_NoName ?g_NoRow ?k_NoRow ?h_NoRow ?t_NoRow ?u_NoRow ?f_NoRow ?g_NoSeen ?k_NoSeen ?h_NoSeen ?t_NoSeen ?u_NoSeen ?f_NoSeen ?g_Nothing ?k_Nothing ?h_Nothing ?t_Nothing ?u_Nothing ?f_Nothing ?g_NoWriting ?k_NoWriting ?h_NoWriting ?t_NoWriting ?u_NoWriting ?f_NoWriting ?g_TooMany ?k_TooMany ?h_TooMany ?t_TooMany ?u_TooMany ?f_TooMany ?g_KeysError ?k_KeysError ?h_KeysError ?t_KeysError ?u_KeysError ?f_KeysError ?g_NoHand ?k_NoHand ?h_NoHand ?t_NoHand ?u_NoHand ?f_NoHand ?g_NoSheet ?k_NoSheet ?h_NoSheet ?t_NoSheet ?u_NoSheet ?f_NoSheet ?g_NoTimes ?k_NoTimes ?h_NoTimes ?t_NoTimes ?u_NoTimes ?f_NoTimes ?g_NoStand ?k_NoStand ?h_NoStand ?t_NoStand ?u_NoStand ?f_NoStand ?g_NoPlay ?k_NoPlay ?h_NoPlay ?t_NoPlay ?u_NoPlay ?f_NoPlay ?nG ?nT ?q_NoText ?o_NoText ?p_NoText ?j_NoText ?m_NoText ?w_NoText ?s_NoText_NoLetter ?s_NoText_NoPlace ?s_NoText_NoNumber ?s_NoText_NoRings ?s_NoText_Full ?s_NoText_NoLengths ?s_NoText_NoName ?s_NoText_NoRow ?s_NoText_NoSeen ?s_NoText_Nothing ?s_NoText_NoWriting ?s_NoText_TooMany ?s_NoText_KeysError ?s_NoText_NoHand ?s_NoText_NoSheet ?s_NoText_NoTimes ?s_NoText_NoStand ?s_NoText_NoPlay ?q_NoLetter ?o_NoLetter ?p_NoLetter ?j_NoLetter ?m_NoLetter ?w_NoLetter ?s_NoLetter_NoText ?s_NoLetter_NoPlace ?s_NoLetter_NoNumber ?s_NoLetter_NoRings ?s_NoLetter_Full ?s_NoLetter_NoLengths ?s_NoLetter_NoName ?s_NoLetter_NoRow ?s_NoLetter_NoSeen ?s_NoLetter_Nothing ?s_NoLetter_NoWriting ?s_NoLetter_TooMany ?s_NoLetter_KeysError ?s_NoLetter_NoHand ?s_NoLetter_NoSheet ?s_NoLetter_NoTimes ?s_NoLetter_NoStand ?s_NoLetter_NoPlay ?q_NoPlace ?o_NoPlace ?p_NoPlace ?j_NoPlace ?m_NoPlace ?w_NoPlace ?s_NoPlace_NoText ?s_NoPlace_NoLetter ?s_NoPlace_NoNumber ?s_NoPlace_NoRings ?s_NoPlace_Full ?s_NoPlace_NoLengths ?s_NoPlace_NoName ?s_NoPlace_NoRow ?s_NoPlace_NoSeen ?s_NoPlace_Nothing ?s_NoPlace_NoWriting ?s_NoPlace_TooMany ?s_NoPlace_KeysError ?s_NoPlace_NoHand ?s_NoPlace_NoSheet ?s_NoPlace_NoTimes ?s_NoPlace_NoStand ?s_NoPlace_NoPlay ?q_NoNumber ?o_NoNumber ?p_NoNumber ?j_NoNumber ?m_NoNumber ?w_NoNumber ?s_NoNumber_NoText ?s_NoNumber_NoLetter ?s_NoNumber_NoPlace ?s_NoNumber_NoRings ?s_NoNumber_Full ?s_NoNumber_NoLengths ?s_NoNumber_NoName ?s_NoNumber_NoRow ?s_NoNumber_NoSeen ?s_NoNumber_Nothing ?s_NoNumber_NoWriting ?s_NoNumber_TooMany ?s_NoNumber_KeysError ?s_NoNumber_NoHand ?s_NoNumber_NoSheet ?s_NoNumber_NoTimes ?s_NoNumber_NoStand ?s_NoNumber_NoPlay ?z_ValueError ?z_abs ?z_divmod ?z_int ?z_isinstance ?z_len ?z_list ?z_max ?z_min ?z_range ?z_repr ?z_sorted ?z_str ?z_sum ?z_tuple ?z_type ?v_ALPHABET ?v_LONGEST_LOOK ?v_LONGEST_WORD ?v_MOST_LETTERS ?v_MOST_PIECES ?v_TWO_WORDS
    (case a0 => k_is)
    (case l0 => k_is)
    (case c0 => k_is)
    (case k0 => k_is)
    (case a1 => k_is)
    (case l1 => k_is)
    (case c1 => k_is)
    (case k1 => k_is)
    (case a2 => k_is)
    (case l2 => k_is)
    (case c2 => k_is)
    (case k2 => k_is)
    (case a3 => k_is)
    (case l3 => k_is)
    (case c3 => k_is)
    (case k3 => k_is)
    (case a4 => k_is)
    (case l4 => k_is)
    (case c4 => k_is)
    (case k4 => k_is)
    (case a5 => k_is)
    (case l5 => k_is)
    (case c5 => k_is)
    (case k5 => k_is)
    (case a6 => k_is)
    (case l6 => k_is)
    (case c6 => k_is)
    (case k6 => k_is)
    (case a7 => k_is)
    (case l7 => k_is)
    (case c7 => k_is)
    (case k7 => k_is)
    (case a8 => k_is)
    (case l8 => k_is)
    (case c8 => k_is)
    (case k8 => k_is)
    (case a9 => k_is)
    (case l9 => k_is)
    (case c9 => k_is)
    (case k9 => k_is)
    (case a10 => k_is)
    (case l10 => k_is)
    (case c10 => k_is)
    (case k10 => k_is)
    (case a11 => k_is)
    (case l11 => k_is)
    (case c11 => k_is)
    (case k11 => k_is)
    (case a12 => k_is)
    (case l12 => k_is)
    (case c12 => k_is)
    (case k12 => k_is)
    (case a13 => k_is)
    (case l13 => k_is)
    (case c13 => k_is)
    (case k13 => k_is)
    (case a14 => k_is)
    (case l14 => k_is)
    (case c14 => k_is)
    (case k14 => k_is)
    (case a15 => k_is)
    (case l15 => k_is)
    (case c15 => k_is)
    (case k15 => k_is)
    (case a16 => k_is)
    (case l16 => k_is)
    (case c16 => k_is)
    (case k16 => k_is)
    (case a17 => k_is)
    (case l17 => k_is)
    (case c17 => k_is)
    (case k17 => k_is)
    (case a18 => k_is)
    (case l18 => k_is)
    (case c18 => k_is)
    (case k18 => k_is)
    (case a19 => k_is)
    (case l19 => k_is)
    (case c19 => k_is)
    (case k19 => k_is)
    (case a20 => k_is)
    (case l20 => k_is)
    (case c20 => k_is)
    (case k20 => k_is)
    (case a21 => k_is)
    (case l21 => k_is)
    (case c21 => k_is)
    (case k21 => k_is)
    (case a22 => k_is)
    (case l22 => k_is)
    (case c22 => k_is)
    (case k22 => k_is)
    (case a23 => k_is)
    (case l23 => k_is)
    (case c23 => k_is)
    (case k23 => k_is)
    (case a24 => k_is)
    (case l24 => k_is)
    (case c24 => k_is)
    (case k24 => k_is)
    (case a25 => k_is)
    (case l25 => k_is)
    (case c25 => k_is)
    (case k25 => k_is)
    (case a26 => k_is)
    (case l26 => k_is)
    (case c26 => k_is)
    (case k26 => k_is)
    (case a27 => k_is)
    (case l27 => k_is)
    (case c27 => k_is)
    (case k27 => k_is)
    (case a28 => k_is)
    (case l28 => k_is)
    (case c28 => k_is)
    (case k28 => k_is)
    (case a29 => k_is)
    (case l29 => k_is)
    (case c29 => k_is)
    (case k29 => k_is)
    (case a30 => k_is)
    (case l30 => k_is)
    (case c30 => k_is)
    (case k30 => k_is)
    (case g_NoText => k_is)
    (case k_NoText => k_is)
    (case h_NoText => k_is)
    (case t_NoText => k_is)
    (case u_NoText => k_is)
    (case f_NoText => k_is)
    (case g_NoLetter => k_is)
    (case k_NoLetter => k_is)
    (case h_NoLetter => k_is)
    (case t_NoLetter => k_is)
    (case u_NoLetter => k_is)
    (case f_NoLetter => k_is)
    (case g_NoPlace => k_is)
    (case k_NoPlace => k_is)
    (case h_NoPlace => k_is)
    (case t_NoPlace => k_is)
    (case u_NoPlace => k_is)
    (case f_NoPlace => k_is)
    (case g_NoNumber => k_is)
    (case k_NoNumber => k_is)
    (case h_NoNumber => k_is)
    (case t_NoNumber => k_is)
    (case u_NoNumber => k_is)
    (case f_NoNumber => k_is)
    (case g_NoRings => k_is)
    (case k_NoRings => k_is)
    (case h_NoRings => k_is)
    (case t_NoRings => k_is)
    (case u_NoRings => k_is)
    (case f_NoRings => k_is)
    (case g_Full => k_is)
    (case k_Full => k_is)
    (case h_Full => k_is)
    (case t_Full => k_is)
    (case u_Full => k_is)
    (case f_Full => k_is)
    (case g_NoLengths => k_is)
    (case k_NoLengths => k_is)
    (case h_NoLengths => k_is)
    (case t_NoLengths => k_is)
    (case u_NoLengths => k_is)
    (case f_NoLengths => k_is)
    (case g_NoName => k_is)
    (case k_NoName => k_is)
    (case h_NoName => k_is)
    (case t_NoName => k_is)
    (case u_NoName => k_is)
    (case f_NoName => k_is)
    (case g_NoRow => k_is)
    (case k_NoRow => k_is)
    (case h_NoRow => k_is)
    (case t_NoRow => k_is)
    (case u_NoRow => k_is)
    (case f_NoRow => k_is)
    (case g_NoSeen => k_is)
    (case k_NoSeen => k_is)
    (case h_NoSeen => k_is)
    (case t_NoSeen => k_is)
    (case u_NoSeen => k_is)
    (case f_NoSeen => k_is)
    (case g_Nothing => k_is)
    (case k_Nothing => k_is)
    (case h_Nothing => k_is)
    (case t_Nothing => k_is)
    (case u_Nothing => k_is)
    (case f_Nothing => k_is)
    (case g_NoWriting => k_is)
    (case k_NoWriting => k_is)
    (case h_NoWriting => k_is)
    (case t_NoWriting => k_is)
    (case u_NoWriting => k_is)
    (case f_NoWriting => k_is)
    (case g_TooMany => k_is)
    (case k_TooMany => k_is)
    (case h_TooMany => k_is)
    (case t_TooMany => k_is)
    (case u_TooMany => k_is)
    (case f_TooMany => k_is)
    (case g_KeysError => k_is)
    (case k_KeysError => k_is)
    (case h_KeysError => k_is)
    (case t_KeysError => k_is)
    (case u_KeysError => k_is)
    (case f_KeysError => k_is)
    (case g_NoHand => k_is)
    (case k_NoHand => k_is)
    (case h_NoHand => k_is)
    (case t_NoHand => k_is)
    (case u_NoHand => k_is)
    (case f_NoHand => k_is)
    (case g_NoSheet => k_is)
    (case k_NoSheet => k_is)
    (case h_NoSheet => k_is)
    (case t_NoSheet => k_is)
    (case u_NoSheet => k_is)
    (case f_NoSheet => k_is)
    (case g_NoTimes => k_is)
    (case k_NoTimes => k_is)
    (case h_NoTimes => k_is)
    (case t_NoTimes => k_is)
    (case u_NoTimes => k_is)
    (case f_NoTimes => k_is)
    (case g_NoStand => k_is)
    (case k_NoStand => k_is)
    (case h_NoStand => k_is)
    (case t_NoStand => k_is)
    (case u_NoStand => k_is)
    (case f_NoStand => k_is)
    (case g_NoPlay => k_is)
    (case k_NoPlay => k_is)
    (case h_NoPlay => k_is)
    (case t_NoPlay => k_is)
    (case u_NoPlay => k_is)
    (case f_NoPlay => k_is)
    (case nG => k_is)
    (case nT => k_is)
    (case q_NoText => k_exc)
    (case o_NoText => k_is)
    (case p_NoText => k_is)
    (case j_NoText => k_is)
    (case m_NoText => k_is)
    (case w_NoText => k_is)
    (case s_NoText_NoLetter => k_is)
    (case s_NoText_NoPlace => k_is)
    (case s_NoText_NoNumber => k_is)
    (case s_NoText_NoRings => k_is)
    (case s_NoText_Full => k_is)
    (case s_NoText_NoLengths => k_is)
    (case s_NoText_NoName => k_is)
    (case s_NoText_NoRow => k_is)
    (case s_NoText_NoSeen => k_is)
    (case s_NoText_Nothing => k_is)
    (case s_NoText_NoWriting => k_is)
    (case s_NoText_TooMany => k_is)
    (case s_NoText_KeysError => k_is)
    (case s_NoText_NoHand => k_is)
    (case s_NoText_NoSheet => k_is)
    (case s_NoText_NoTimes => k_is)
    (case s_NoText_NoStand => k_is)
    (case s_NoText_NoPlay => k_is)
    (case q_NoLetter => k_exc)
    (case o_NoLetter => k_is)
    (case p_NoLetter => k_is)
    (case j_NoLetter => k_is)
    (case m_NoLetter => k_is)
    (case w_NoLetter => k_is)
    (case s_NoLetter_NoText => k_is)
    (case s_NoLetter_NoPlace => k_is)
    (case s_NoLetter_NoNumber => k_is)
    (case s_NoLetter_NoRings => k_is)
    (case s_NoLetter_Full => k_is)
    (case s_NoLetter_NoLengths => k_is)
    (case s_NoLetter_NoName => k_is)
    (case s_NoLetter_NoRow => k_is)
    (case s_NoLetter_NoSeen => k_is)
    (case s_NoLetter_Nothing => k_is)
    (case s_NoLetter_NoWriting => k_is)
    (case s_NoLetter_TooMany => k_is)
    (case s_NoLetter_KeysError => k_is)
    (case s_NoLetter_NoHand => k_is)
    (case s_NoLetter_NoSheet => k_is)
    (case s_NoLetter_NoTimes => k_is)
    (case s_NoLetter_NoStand => k_is)
    (case s_NoLetter_NoPlay => k_is)
    (case q_NoPlace => k_exc)
    (case o_NoPlace => k_is)
    (case p_NoPlace => k_is)
    (case j_NoPlace => k_is)
    (case m_NoPlace => k_is)
    (case w_NoPlace => k_is)
    (case s_NoPlace_NoText => k_is)
    (case s_NoPlace_NoLetter => k_is)
    (case s_NoPlace_NoNumber => k_is)
    (case s_NoPlace_NoRings => k_is)
    (case s_NoPlace_Full => k_is)
    (case s_NoPlace_NoLengths => k_is)
    (case s_NoPlace_NoName => k_is)
    (case s_NoPlace_NoRow => k_is)
    (case s_NoPlace_NoSeen => k_is)
    (case s_NoPlace_Nothing => k_is)
    (case s_NoPlace_NoWriting => k_is)
    (case s_NoPlace_TooMany => k_is)
    (case s_NoPlace_KeysError => k_is)
    (case s_NoPlace_NoHand => k_is)
    (case s_NoPlace_NoSheet => k_is)
    (case s_NoPlace_NoTimes => k_is)
    (case s_NoPlace_NoStand => k_is)
    (case s_NoPlace_NoPlay => k_is)
    (case q_NoNumber => k_exc)
    (case o_NoNumber => k_is)
    (case p_NoNumber => k_is)
    (case j_NoNumber => k_is)
    (case m_NoNumber => k_is)
    (case w_NoNumber => k_is)
    (case s_NoNumber_NoText => k_is)
    (case s_NoNumber_NoLetter => k_is)
    (case s_NoNumber_NoPlace => k_is)
    (case s_NoNumber_NoRings => k_is)
    (case s_NoNumber_Full => k_is)
    (case s_NoNumber_NoLengths => k_is)
    (case s_NoNumber_NoName => k_is)
    (case s_NoNumber_NoRow => k_is)
    (case s_NoNumber_NoSeen => k_is)
    (case s_NoNumber_Nothing => k_is)
    (case s_NoNumber_NoWriting => k_is)
    (case s_NoNumber_TooMany => k_is)
    (case s_NoNumber_KeysError => k_is)
    (case s_NoNumber_NoHand => k_is)
    (case s_NoNumber_NoSheet => k_is)
    (case s_NoNumber_NoTimes => k_is)
    (case s_NoNumber_NoStand => k_is)
    (case s_NoNumber_NoPlay => k_is)
    (case z_ValueError => k_is)
    (case z_abs => k_is)
    (case z_divmod => k_is)
    (case z_int => k_is)
    (case z_isinstance => k_is)
    (case z_len => k_is)
    (case z_list => k_is)
    (case z_max => k_is)
    (case z_min => k_is)
    (case z_range => k_is)
    (case z_repr => k_is)
    (case z_sorted => k_is)
    (case z_str => k_is)
    (case z_sum => k_is)
    (case z_tuple => k_is)
    (case z_type => k_is)
    (case v_ALPHABET => k_is)
    (case v_LONGEST_LOOK => k_is)
    (case v_LONGEST_WORD => k_is)
    (case v_MOST_LETTERS => k_is)
    (case v_MOST_PIECES => k_is)
    (case v_TWO_WORDS => k_is)
