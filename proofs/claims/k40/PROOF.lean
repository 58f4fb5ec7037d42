import PyProof.Rows.All
import Wide.All
import OpenK.AllK
import Wide.FinOn
import PyProof.TypeEq
import PyProof.Rows.StrMul
import PyProof.LongRange
import HandS.ForMost
import HandS.Wide
import HandS.WideBits
import HandS.More
import HandS.StrMore
import HandS.NoneIn
import HandS.Flow
import HandS.SortInts
import HandS.Dict
import HandS.Conv
import HandS.IsInst
import HandS.Codes
import HandS.Style
import HandS.Iter
import HandS.More
import HandS.SortInts
import HandS.Small
import PySem.Challenge.RW_blindkeys_k40_longest_rounds
set_option Elab.async false
set_option linter.all false
set_option maxRecDepth 100000
set_option maxHeartbeats 4000000
namespace BK
open PySem PySem.Spec PyProof.Rows L2

/-! ### more rules -/
section
variable {A : Around} {s : Shared}
theorem meta_of {n : String} (h : n ∈ ["int", "str", "bool", "NoneType", "list", "tuple", "dict"]) (s' : Shared) : s'.TypeIs (.type n) "type" := by
  simp only [List.mem_cons, List.not_mem_nil, or_false] at h
  rcases h with rfl | rfl | rfl | rfl | rfl | rfl | rfl
  · exact TypeEq.meta_int s'
  · exact TypeEq.meta_str s'
  · exact TypeEq.meta_bool s'
  · exact TypeEq.meta_NoneType s'
  · exact TypeEq.meta_list s'
  · exact TypeEq.meta_tuple s'
  · exact TypeEq.meta_dict s'
theorem eqAt_ty {a b : String} (ha : a ∈ ["int", "str", "bool", "NoneType", "list", "tuple", "dict"]) (hb : b ∈ ["int", "str", "bool", "NoneType", "list", "tuple", "dict"]) : SeqAt.EqAt A s (.type a) (.type b) (decide (a = b)) := fun prog w E Q h => by
  unfold eqBool
  refine wpAny_holding ?_
  by_cases e : a = b
  · subst e
    rw [decide_eq_true rfl] at h
    refine wpAny_ite_split (fun _ => wpAny_bind (wpAny_rule (wpAny_pure h))) (fun hab => absurd (beq_self_eq_true _) hab)
  · rw [decide_eq_false e] at h
    have hne : (Value.type a == Value.type b) = false := beq_eq_false_iff_ne.mpr fun z => e (Value.type.inj z)
    refine wpAny_ite_split (fun hab => absurd hab (by rw [hne]; exact Bool.false_ne_true)) (fun _ => ?_)
    exact wpAny_bind (TypeEq.eq_type_other (meta_of ha) (meta_of hb) hne (wpAny_truthy_bool h))
end
abbrev knownTy : List String := ["int", "str", "bool", "NoneType", "list", "tuple", "dict"]
/-- type(x) in (list, tuple) -/
def rInTy (K : PySem.W.Frag) : R2 := fun x y H Q => ∃ (a : String) (p : Addr) (ns : List String), x = .ty a ∧ y = .ref p ∧ SqT K H p (ns.map V.ty) ∧ a ∈ knownTy ∧ (∀ n ∈ ns, n ∈ knownTy) ∧ Q (.bl (decide (a ∈ ns))) H
theorem vals_ty : ∀ {ns : List String} {us : List Value}, Vals (ns.map V.ty) us → us = ns.map Value.type
  | [], _, .nil => rfl
  | n :: ns, _, .cons r t => by
    have e := vals_ty t
    cases (show _ = Value.type n from r)
    rw [e, List.map_cons]
section
variable {X : Cx}
theorem op_in_ty : OpR X (compareOp .In) (rInTy X.K) := by
  intro pins s σ H x y v u Q I rx ry h
  obtain ⟨a, p, ns, rfl, rfl, hq, ha, hn, q⟩ := h
  cases (show v = Value.type a from rx)
  cases (show u = Value.ref p from ry)
  obtain ⟨its, r, pl, hz⟩ := I.tuple hq
  have e := vals_ty r
  subst e
  refine SeqAt.in_tupleAt (fun y => match y with | .type n => decide (n = a) | _ => false) pl (fun w hw => ?_) ⟨.bl _, H, I, rfl, ?_⟩
  · simp only [List.mem_toArray, List.mem_map] at hw
    obtain ⟨n, hn1, rfl⟩ := hw
    exact eqAt_ty (hn n hn1) ha
  · have e : (((ns.map Value.type).toArray).any (fun y => match y with | .type n => decide (n = a) | _ => false)) = decide (a ∈ ns) := by
      rw [List.any_toArray, List.any_map, Bool.eq_iff_iff, List.any_eq_true, decide_eq_true_iff]
      constructor
      · rintro ⟨n, h1, h2⟩
        have : n = a := of_decide_eq_true h2
        subst this
        exact h1
      · intro h1
        exact ⟨a, h1, decide_eq_true rfl⟩
    rw [e]
    exact q
/-- text * int -/
def rMulS : R2 := fun x y H Q => ∃ z n, x = .str z ∧ y = .int n ∧ MulOk z n ∧ Q (.str (Txt.mul z n)) H
theorem op_mul_str : OpR X (binaryOp .Mult) rMulS := by
  intro pins s σ H x y v u Q I rx ry h
  obtain ⟨z, n, rfl, rfl, ok, q⟩ := h
  obtain ⟨t, rfl⟩ := rx
  obtain ⟨t', rfl⟩ := ry
  exact SB.mul ok fun t2 k => ⟨.str _, H, I.tok _, ⟨_, rfl⟩, q⟩
theorem OpR.or {f : Value → Value → Sem Value} {r r' : R2} (h : OpR X f r) (h' : OpR X f r') : OpR X f (fun x y H Q => r x y H Q ∨ r' x y H Q) := by
  intro pins s σ H x y v u Q I rx ry hh
  rcases hh with hh | hh
  · exact h pins s σ H x y v u Q I rx ry hh
  · exact h' pins s σ H x y v u Q I rx ry hh
theorem pi_or {tg it : PySem.Expr} {w1 w2 : TI} (h1 : PI X tg it w1) (h2 : PI X tg it w2) : PI X tg it (fun σ H R => w1 σ H R ∨ w2 σ H R) := ⟨fun pins s σ H R I h => by
  rcases h with h | h
  · exact h1.run pins s σ H R I h
  · exact h2.run pins s σ H R I h⟩
theorem pg_or {tg : PySem.Expr} {g1 g2 : TG} (h1 : PG X tg g1) (h2 : PG X tg g2) : PG X tg (fun v σ H Q => g1 v σ H Q ∨ g2 v σ H Q) := ⟨fun pins s σ H v u Q I r h => by
  rcases h with h | h
  · exact h1.run pins s σ H v u Q I r h
  · exact h2.run pins s σ H v u Q I r h⟩
end

/-! ### range(a, b) of any ints -/
section
theorem turn_long {P : Program} {w : World} {K : PySem.W.Frag} {tg : PySem.Expr} (it : Addr) (lo : Int) (n : Nat) : Turn P w K tg (Itr lo n) [it] it (fun i h => IsLongIter h it (lo + (i : Nat) * 1) ((n : Int) - (i : Nat)) 1) where
  mem := by simp
  obj := fun i h st b hb => by
    have e : b = it := by simpa using hb
    subst e
    exact ⟨_, st, fun v z => by
      have z' : Data.fields _ = Data.cell v := z
      cases z'⟩
  keep := fun i h h' st k => k it (by simp) _ st
  item := by
    intro X hP hw hK hc i pins s σ H E I hf st hg
    subst hP hw hK
    obtain ⟨f0, f1, f2, f3, f4, f5⟩ := hf it (by simp)
    have W := Walks.longrange (prog := X.prog) (w := X.w) (I.ok.hd hc) it lo 1 n
    refine W.item i s _ _ hg st fun v h' tk hv st' kk => ?_
    obtain ⟨t, rfl⟩ := hv
    have I1 : Inv X pins σ H { s with heap := h', toks := tk } := I.turned (fun b o hb e => kk b o (by simpa using hb) e) f0 f1 f3 f4 f5
    refine ⟨_, rfl, go_of (s := { s with heap := h', toks := tk }) (n := "longrange_iterator") st' rfl rfl (by decide) ⟨.int (lo + i), H, I1, ⟨t, ?_⟩, ⟨rfl, rfl⟩, st', fun b hb => (hf b hb).1⟩⟩
    rw [Int.mul_one]
  done := by
    intro X hP hw hK hc i pins s σ H E I hf st hg
    subst hP hw hK
    obtain ⟨f0, f1, f2, f3, f4, f5⟩ := hf it (by simp)
    exact wpAny_pyNext_long_end (I.ok.hd hc) st (by have : n ≤ i := hg; omega) fun h' eb => ⟨rfl, I.turned (t' := s.toks) (fun b o hb e => eb b o hb e) f0 f1 f3 f4 f5⟩
  self := fun _ _ _ _ _ st h => wpAny_pyIter_longiter st h
variable {X : Cx} {tg : PySem.Expr}
theorem rsize1 (lo hi : Int) : Builtin.Range.rangeSize lo hi 1 = (((hi - lo).toNat : Nat) : Int) := by
  rw [rangeSize_one]
  split <;> omega
theorem range_itL {pins : List (Addr × Obj)} {σ : L2.St} {H : Hp} {s : Shared} {R : It → Hp → Prop} {E : Value → Shared → Prop} {lo hi : Int} {t u v : Tok} {tk : Nat} (I : Inv X pins σ H s)
    (q : R (Itr lo (hi - lo).toNat) H) : wpAny (model X.prog X.w) X.A (pyIter (.ref s.heap.objs.size)) (PIE X pins σ tg R) E { s with heap := s.heap.push { cls := .type "range", data := .fields #[.int lo t, .int hi u, .int 1 v] }, toks := tk } := by
  have I1 : Inv X pins σ H { s with heap := s.heap.push { cls := .type "range", data := .fields #[.int lo t, .int hi u, .int 1 v] }, toks := tk } := I.kept fun b o e => Heap.get?_push_of_some _ e
  have e1 : lo + ((0 : Nat) : Int) * 1 = lo := by simp
  have e2 : (((hi - lo).toNat : Nat) : Int) - ((0 : Nat) : Int) = Builtin.Range.rangeSize lo hi 1 := by rw [rsize1]; omega
  have hf : ∀ b ∈ [(s.heap.push { cls := .type "range", data := .fields #[.int lo t, .int hi u, .int 1 v] }).objs.size], FpOk X pins H b := fun b hb => by
    have e : b = (s.heap.push { cls := .type "range", data := .fields #[.int lo t, .int hi u, .int 1 v] }).objs.size := by simpa using hb
    subst e
    exact I1.fpOk (Nat.le_refl _) (I1.hok.fresh (Nat.le_refl _))
  cases hs : Builtin.Range.small lo hi 1 with
  | true =>
    refine wpAny_pyIter_range (IsRange.new ..) hs ?_
    refine ⟨(s.heap.push { cls := .type "range", data := .fields #[.int lo t, .int hi u, .int 1 v] }).objs.size, [(s.heap.push { cls := .type "range", data := .fields #[.int lo t, .int hi u, .int 1 v] }).objs.size], _, _, H, rfl,
      I1.kept (t' := tk) fun b o e => Heap.get?_push_of_some _ e, turn_range _ lo (hi - lo).toNat, ?_, hf, q⟩
    show IsRangeIter _ _ (lo + ((0 : Nat) : Int) * 1) ((((hi - lo).toNat : Nat) : Int) - ((0 : Nat) : Int)) 1
    rw [e1, e2]
    exact Heap.get?_push_size _ rfl
  | false =>
    refine wpAny_pyIter_longrange (IsRange.new ..) hs ?_
    refine ⟨(s.heap.push { cls := .type "range", data := .fields #[.int lo t, .int hi u, .int 1 v] }).objs.size, [(s.heap.push { cls := .type "range", data := .fields #[.int lo t, .int hi u, .int 1 v] }).objs.size], _, _, H, rfl,
      I1.kept (t' := tk) fun b o e => Heap.get?_push_of_some _ e, turn_long _ lo (hi - lo).toNat, ?_, hf, q⟩
    show IsLongIter _ _ (lo + ((0 : Nat) : Int) * 1) ((((hi - lo).toNat : Nat) : Int) - ((0 : Nat) : Int)) 1
    rw [e1, e2]
    exact Heap.get?_push_size _ rfl
def iRng2L (ta : TA) : TI := fun σ H R => ta σ H fun vs H1 => ∃ i j : Int, vs = [.int i, .int j] ∧ R (Itr i (j - i).toNat) H1
theorem pi_range2L {a b : PySem.Expr} {ta : TA} {p pos : Pos} (hg : Gl X "range") (hm : X.mg "range" = none) (ha : PA X [a, b] ta) (hs : starEach [a, b] X.env = [(false, eval a X.env), (false, eval b X.env)] := by rfl) (hs2 : starEach [b] X.env = [(false, eval b X.env)] := by rfl) :
    PI X tg (.Call (.Name "range" p) [a, b] [] pos) (iRng2L ta) := by
  refine ⟨fun pins s σ H R I h => ?_⟩
  refine Call_ (ld_blt I hg hm boot_range (PyProof.Rows.callWith_type1 (thn (ha.run pos pins s σ H _ I h) fun us s1 ⟨vs, H1, I1, r1, q1⟩ => ?_) (by rw [hs, hs2]) (by rw [hs2]; rfl)))
  obtain ⟨i, j, e, q⟩ := q1
  subst e
  cases r1 with
  | cons r rr =>
    cases rr with
    | cons r' rr =>
      cases rr
      obtain ⟨t, rfl⟩ := r
      obtain ⟨t', rfl⟩ := r'
      exact call_range_2 (range_itL I1 q)
end

/-! ### rows: a list or a tuple -/
def Row (K : PySem.W.Frag) (H : Hp) (a : Addr) (xs : List V) : Prop := SqL K H a xs ∨ SqT K H a xs
theorem sameT {K : PySem.W.Frag} {H H' : Hp} {a : Addr} {xs : List V} (e : Same H H') (h : SqT K H a xs) : SqT K H' a xs := by
  rcases h with (h | ⟨o, h⟩) | h
  · exact .inl (.inl (e _ _ h))
  · exact .inl (.inr ⟨o, e _ _ h⟩)
  · exact .inr h
theorem Row.same {K : PySem.W.Frag} {H H' : Hp} {a : Addr} {xs : List V} (e : Same H H') (h : Row K H a xs) : Row K H' a xs := h.imp e.seq (sameT e)
theorem same_upd {H : Hp} {p : Addr} {o : HO} (h : H p = none) : Same H (upd H p o) := fun b x e => by
  rw [upd_ne (ne_of_none e h)]
  exact e
section
variable {X : Cx} {pos : Pos}
theorem call_lenA : CallR X (.builtin "len") (fun xs H Q => (∃ p ys, xs = [.ref p] ∧ (SqL X.K H p ys ∨ SqT X.K H p ys) ∧ Q (.int ys.length) H) ∨ (∃ z, xs = [.str z] ∧ z.length ≤ sizeLine ∧ Q (.int z.length) H)) := CallR.or call_len_seq call_len_str
def iSeq (K : PySem.W.Frag) (tl : TE) : TI := fun σ H R => iList K tl σ H R ∨ iTup K tl σ H R
theorem pi_seq {tg l : PySem.Expr} {tl : TE} (hl : PE X l tl) : PI X tg l (iSeq X.K tl) := pi_or (pi_list hl) (pi_tup hl)
def gSeq (K : PySem.W.Frag) (n : Nat) (t : TGs) : TG := fun v σ H Q => gTup K n t v σ H Q ∨ gUnl K n t v σ H Q
theorem pg_seq {es : List PySem.Expr} {k : Nat} {t : TGs} {n : Nat} (hc : X.calm = true) (h : PGs X es t)
    (hn : (assignEach es X.env).length = n := by rfl) (hst : (assignEach es X.env).findIdx? (·.1) = none := by rfl) : PG X (.Tuple es k pos) (gSeq X.K n t) := pg_or (pg_tup hc h hn hst) (pg_unl hc h hn hst)
end
theorem gSeq.row {K : PySem.W.Frag} {n : Nat} {t : TGs} {a : Addr} {xs : List V} {σ : L2.St} {H : Hp} {Q : L2.St → Hp → Prop} (h : Row K H a xs) (hl : xs.length = n) (q : t xs σ H Q) : gSeq K n t (.ref a) σ H Q := by
  rcases h with h | h
  · exact .inr ⟨a, xs, rfl, h, hl, q⟩
  · exact .inl ⟨a, xs, rfl, h, hl, q⟩
/-- for x in (a row that stands in slot i) -/
theorem for_row {K : PySem.W.Frag} {a : Addr} {xs : List V} {g : TG} {tb : TS} {D : Ends} {σ : L2.St} {Hb H : Hp} {j : Nat} (hv : σ[j]? = some (some (.ref a))) (hr : Row K Hb a xs) (hb : Same Hb H) (Pv : Nat → L2.St → Hp → Prop) (h0 : Pv 0 σ H) (hl : ∀ i σ H', i ≤ xs.length → Pv i σ H' → Same Hb H')
    (hs : ∀ i x σ H, xs[i]? = some x → Pv i σ H → g x σ H fun σ2 H2 => tb { D with nx := Pv (i + 1), ct := Pv (i + 1), bk := D.nx } σ2 H2) (hd : ∀ σ H, Pv xs.length σ H → D.nx σ H) :
    tFor (iSeq K (tVar j)) g tb D σ H := by
  rcases hr with hr | hr
  · exact .inl ⟨_, hv, a, rfl, ⟨_, hb.seq hr⟩, for_list (K := K) (a := a) (xs := xs) Pv h0 (fun i σ H' hi p => (hl i σ H' hi p).seq hr) hs hd⟩
  · exact .inr ⟨_, hv, a, rfl, ⟨_, sameT hb hr⟩, for_tup (K := K) (a := a) (xs := xs) Pv h0 (fun i σ H' hi p => sameT (hl i σ H' hi p) hr) hs hd⟩
/-! ### the same rules with the written part named, for use within comprehensions -/
section
variable {X : Cx} {pos : Pos} (K : PySem.W.Frag)
def rLenA (K : PySem.W.Frag) : List V → Hp → VK → Prop := fun xs H Q => (∃ p ys, xs = [.ref p] ∧ (SqL K H p ys ∨ SqT K H p ys) ∧ Q (.int ys.length) H) ∨ (∃ z, xs = [.str z] ∧ z.length ≤ sizeLine ∧ Q (.int z.length) H)
theorem ix_seqK (hK : X.K = K := by rfl) : IxR X (rIx K) := hK ▸ ix_seq
theorem call_lenK (hK : X.K = K := by rfl) : CallR X (.builtin "len") (rLenA K) := hK ▸ call_lenA
theorem pg_tupK {es : List PySem.Expr} {k : Nat} {t : TGs} {n : Nat} (hc : X.calm = true) (h : PGs X es t)
    (hn : (assignEach es X.env).length = n := by rfl) (hst : (assignEach es X.env).findIdx? (·.1) = none := by rfl) (hK : X.K = K := by rfl) : PG X (.Tuple es k pos) (gTup K n t) := hK ▸ pg_tup hc h hn hst
theorem pg_seqK {es : List PySem.Expr} {k : Nat} {t : TGs} {n : Nat} (hc : X.calm = true) (h : PGs X es t)
    (hn : (assignEach es X.env).length = n := by rfl) (hst : (assignEach es X.env).findIdx? (·.1) = none := by rfl) (hK : X.K = K := by rfl) : PG X (.Tuple es k pos) (gSeq K n t) := hK ▸ pg_seq hc h hn hst
end

/-! ### loops and comprehensions, folded -/
def ForGo (J : It) (g : TG) (tb : TS) (D : Ends) (σ : L2.St) (H : Hp) : Prop := ∃ W : Nat → Nat → L2.St → Hp → Prop, (∃ m, W 0 m σ H) ∧ ∀ i m σ H, W i m σ H →
  (J.stop i H ∧ D.nx σ H) ∨ (J.go i H ∧ ∃ N : L2.St → Hp → Prop, (∀ σ' H', N σ' H' → ∃ m', m' < m ∧ W (i + 1) m' σ' H') ∧ ∀ x H', J.yld i H x H' → g x σ H' fun σ2 H2 => tb { D with nx := N, ct := N, bk := D.nx } σ2 H2)
def LcGo (J : It) (g : TG) (tt : TT) (te : TE) (vs : List Nat) (σ : L2.St) (H1 : Hp) (D : Addr) (Q : VK) : Prop := ∃ W : Nat → Nat → Hp → Prop, (∃ m, W 0 m (upd H1 D (.lst []))) ∧ ∀ i m H, W i m H →
  (J.stop i H ∧ Q (.ref D) H) ∨ (J.go i H ∧ ∃ Nx : Hp → Prop, (∀ H', Nx H' → ∃ m', m' < m ∧ W (i + 1) m' H') ∧ ∀ x H', J.yld i H x H' → g x (wipe σ vs) H' fun σ2 H2 => wipe σ2 vs = wipe σ vs ∧ tt σ2 H2 fun b H3 =>
    if b = true then te σ2 H3 fun y H4 => ∃ acc, H4 D = some (.lst acc) ∧ acc.length < sizeLine ∧ Nx (upd H4 D (.lst (acc ++ [y]))) else Nx H3)
section
variable {K : PySem.W.Frag} {ta : TA} {tl : TE} {g : TG} {tb : TS} {D : Ends} {σ : L2.St} {H : Hp} {tt : TT} {te : TE} {vs : List Nat} {Q : VK}
theorem fr_rng1 (h : ta σ H fun us H1 => ∃ j : Int, us = [.int j] ∧ -(2 ^ 62) ≤ j ∧ j < 2 ^ 62 ∧ ForGo (Itr 0 j.toNat) g tb D σ H1) : tFor (iRng1 ta) g tb D σ H := h
theorem fr_rng2 (h : ta σ H fun us H1 => ∃ i j : Int, us = [.int i, .int j] ∧ (-(2 ^ 62) ≤ i ∧ i < 2 ^ 62 ∧ -(2 ^ 62) ≤ j ∧ j < 2 ^ 62) ∧ ForGo (Itr i (j - i).toNat) g tb D σ H1) : tFor (iRng2 ta) g tb D σ H := h
theorem fr_rng2L (h : ta σ H fun us H1 => ∃ i j : Int, us = [.int i, .int j] ∧ ForGo (Itr i (j - i).toNat) g tb D σ H1) : tFor (iRng2L ta) g tb D σ H := h
theorem fr_list (h : tl σ H fun x H1 => ∃ a, x = .ref a ∧ (∃ xs, SqL K H1 a xs) ∧ ForGo (Itl K a) g tb D σ H1) : tFor (iList K tl) g tb D σ H := h
theorem fr_str (h : tl σ H fun v H1 => ∃ x, v = .str x ∧ ForGo (Its x) g tb D σ H1) : tFor (iStr tl) g tb D σ H := h
theorem lc_rng1 (h : ta σ H fun us H1 => ∃ j : Int, us = [.int j] ∧ -(2 ^ 62) ≤ j ∧ j < 2 ^ 62 ∧ ∀ D, H1 D = none → LcGo (Itr 0 j.toNat) g tt te vs σ H1 D Q) : tLc (iRng1 ta) g tt te vs σ H Q := h
theorem lc_rng2 (h : ta σ H fun us H1 => ∃ i j : Int, us = [.int i, .int j] ∧ (-(2 ^ 62) ≤ i ∧ i < 2 ^ 62 ∧ -(2 ^ 62) ≤ j ∧ j < 2 ^ 62) ∧ ∀ D, H1 D = none → LcGo (Itr i (j - i).toNat) g tt te vs σ H1 D Q) : tLc (iRng2 ta) g tt te vs σ H Q := h
theorem lc_rng2L (h : ta σ H fun us H1 => ∃ i j : Int, us = [.int i, .int j] ∧ ∀ D, H1 D = none → LcGo (Itr i (j - i).toNat) g tt te vs σ H1 D Q) : tLc (iRng2L ta) g tt te vs σ H Q := h
theorem lc_lst (h : tl σ H fun x H1 => ∃ a, x = .ref a ∧ (∃ xs, SqL K H1 a xs) ∧ ∀ D, H1 D = none → LcGo (Itl K a) g tt te vs σ H1 D Q) : tLc (iList K tl) g tt te vs σ H Q := h
theorem lc_str (h : tl σ H fun v H1 => ∃ x, v = .str x ∧ ∀ D, H1 D = none → LcGo (Its x) g tt te vs σ H1 D Q) : tLc (iStr tl) g tt te vs σ H Q := h

theorem ForGo.range {lo : Int} {n : Nat} (Pv : Nat → L2.St → Hp → Prop) (h0 : Pv 0 σ H)
    (hs : ∀ i σ H, i < n → Pv i σ H → g (.int (lo + i)) σ H fun σ2 H2 => tb { D with nx := Pv (i + 1), ct := Pv (i + 1), bk := D.nx } σ2 H2) (hd : ∀ σ H, Pv n σ H → D.nx σ H) : ForGo (Itr lo n) g tb D σ H := for_range Pv h0 hs hd
theorem ForGo.list {a : Addr} {xs : List V} (Pv : Nat → L2.St → Hp → Prop) (h0 : Pv 0 σ H) (hl : ∀ i σ H, i ≤ xs.length → Pv i σ H → SqL K H a xs)
    (hs : ∀ i x σ H, xs[i]? = some x → Pv i σ H → g x σ H fun σ2 H2 => tb { D with nx := Pv (i + 1), ct := Pv (i + 1), bk := D.nx } σ2 H2) (hd : ∀ σ H, Pv xs.length σ H → D.nx σ H) : ForGo (Itl K a) g tb D σ H := for_list Pv h0 hl hs hd
theorem LcGo.range {lo : Int} {n : Nat} {D : Addr} (Pv : Nat → Hp → Prop) (h0 : Pv 0 (upd H D (.lst [])))
    (hs : ∀ i H, i < n → Pv i H → g (.int (lo + i)) (wipe σ vs) H fun σ2 H2 => wipe σ2 vs = wipe σ vs ∧ tt σ2 H2 fun b H3 =>
      if b = true then te σ2 H3 fun y H4 => ∃ acc, H4 D = some (.lst acc) ∧ acc.length < sizeLine ∧ Pv (i + 1) (upd H4 D (.lst (acc ++ [y]))) else Pv (i + 1) H3) (hd : ∀ H, Pv n H → Q (.ref D) H) : LcGo (Itr lo n) g tt te vs σ H D Q := L2.lc_range (lo := lo) (n := n) Pv h0 hs hd
theorem LcGo.list {a D : Addr} {xs : List V} (Pv : Nat → Hp → Prop) (h0 : Pv 0 (upd H D (.lst []))) (hl : ∀ i H, i ≤ xs.length → Pv i H → SqL K H a xs)
    (hs : ∀ i x H, xs[i]? = some x → Pv i H → g x (wipe σ vs) H fun σ2 H2 => wipe σ2 vs = wipe σ vs ∧ tt σ2 H2 fun b H3 =>
      if b = true then te σ2 H3 fun y H4 => ∃ acc, H4 D = some (.lst acc) ∧ acc.length < sizeLine ∧ Pv (i + 1) (upd H4 D (.lst (acc ++ [y]))) else Pv (i + 1) H3) (hd : ∀ H, Pv xs.length H → Q (.ref D) H) : LcGo (Itl K a) g tt te vs σ H D Q := L2.lc_list Pv h0 hl hs hd
theorem LcGo.str {z : Str} {D : Addr} (Pv : Nat → Hp → Prop) (h0 : Pv 0 (upd H D (.lst [])))
    (hs : ∀ i c H, z.cps[i]? = some c → Pv i H → g (.str ⟨#[c]⟩) (wipe σ vs) H fun σ2 H2 => wipe σ2 vs = wipe σ vs ∧ tt σ2 H2 fun b H3 =>
      if b = true then te σ2 H3 fun y H4 => ∃ acc, H4 D = some (.lst acc) ∧ acc.length < sizeLine ∧ Pv (i + 1) (upd H4 D (.lst (acc ++ [y]))) else Pv (i + 1) H3) (hd : ∀ H, Pv z.cps.size H → Q (.ref D) H) : LcGo (Its z) g tt te vs σ H D Q := by
  refine ⟨fun i m H => m = z.cps.size - i ∧ i ≤ z.cps.size ∧ Pv i H, ⟨z.cps.size, by simp, Nat.zero_le _, h0⟩, ?_⟩
  rintro i m H ⟨rfl, hi, p⟩
  by_cases hlt : i < z.cps.size
  · refine .inr ⟨hlt, Pv (i + 1), fun H' p' => ⟨z.cps.size - (i + 1), by omega, rfl, hlt, p'⟩, fun x H' y => ?_⟩
    obtain ⟨e, c, hc, rfl⟩ := y
    subst e
    exact hs i c _ hc p
  · have e : i = z.cps.size := by omega
    subst e
    exact .inl ⟨Nat.le_refl _, hd H p⟩
end
end BK

namespace BK
open PySem PySem.Spec PyProof.Rows L2

/-! ## del xs[a:] -/
theorem keep_from {α : Type} (a : Nat) : ∀ (xs : List α) (j n : Nat), xs.length + j ≤ n → (xs.zipIdx j).filterMap (fun (p : α × Nat) => if (decide (a ≤ p.2) && decide (p.2 < n)) = true then none else some p.1) = xs.take (a - j)
  | [], j, n, _ => by simp
  | x :: r, j, n, h => by
    rw [List.zipIdx_cons, List.filterMap_cons]
    have hn : j < n := by simp at h; omega
    have ih := keep_from a r (j + 1) n (by simp at h; omega)
    by_cases hj : a ≤ j
    · simp only [hj, hn, decide_true, Bool.and_self, if_true]
      rw [ih, show a - j = 0 by omega, show a - (j + 1) = 0 by omega]
      simp
    · simp only [hj, decide_false, Bool.false_and, Bool.false_eq_true, if_false]
      rw [ih, show a - j = (a - (j + 1)) + 1 by omega, List.take_succ_cons]
theorem pick_take {sel : Nat → Bool} {a n : Nat} (hs : ∀ k, sel k = (decide (a ≤ k) && decide (k < n))) (its : List Value) (hn : its.length = n) :
    (its.toArray.toList.zipIdx.filterMap fun (x : Value × Nat) => if sel x.2 = true then none else some x.1).toArray = (its.take a).toArray := by
  have e : (fun (x : Value × Nat) => if sel x.2 = true then none else some x.1) = fun (x : Value × Nat) => if (decide (a ≤ x.2) && decide (x.2 < n)) = true then none else some x.1 := funext fun x => by rw [hs]
  rw [e, show its.toArray.toList = its by simp, keep_from a its 0 n (by omega), Nat.sub_zero]
section
variable {prog : Program} {w : World} {A : Around} {E : Value → Shared → Prop} {s : Shared}
set_option maxRecDepth 100000 in
/-- a list's slice without end and step, deleted -/
theorem delItem_from {l sl : Addr} {its : List Value} {n : Nat} {vl : Value} {lo : Option Int} {Q : Unit → Shared → Prop}
    (e : s.heap.get? l = some { cls := .type "list", data := .seq its.toArray n })
    (hs : s.heap.IsSliceOf sl vl .none .none) (pl : IsPart vl lo) (hsz : its.length ≤ sizeLine)
    (h : ∀ f : Array Value → Array Value, f its.toArray = (its.take (HT.sIx its.length 0 lo)).toArray → Q () { s with heap := s.heap.update l (Obj.mapSeq f) }) :
    wpAny (model prog w) A (delItem (.ref l) (.ref sl)) Q E s := by
  have hl : s.heap.IsList l its.toArray := PySem.IsL.isList e
  obtain ⟨os, hos, hcs, hds⟩ := id hs
  have hTs : s.TypeIs (.ref sl) "slice" := ⟨os, hos, hcs⟩
  have hstep : ¬ ((rawPart none == rawInt 0) = true) := Bool.false_ne_true
  refine wpAny_delItem_slot hl.typeIs (by decide) PySem.F.slot_list_delitem ?_
  refine wpAny_call_entry PySem.F.slot_list_delitem hl.typeIs PySem.F.entry_list_delitem ?_ (PySem.F.args_list_delitem_2 _ _)
  refine wpAny_bind (m := slotArgs "__delitem__" 1 _) (wpAny_pure ?_)
  refine wpAny_bind (m := Builtin.List.listSubscript? (.ref sl)) ?_
  unfold Builtin.List.listSubscript?
  refine wpAny_bind (wpAny_specialOf hTs slice_no_index ?_)
  simp only [Option.isNone_none, if_true]
  refine wpAny_pure ?_
  show wpAny _ _ (typeOf (.ref sl) >>= _) _ _ s
  refine wpAny_bind (wpAny_typeOf hTs ?_)
  first
    | rw [if_neg (by decide)]
    | refine PySem.W.KFB.if_not (by decide) ?_
  rw [listSliceParts_eq]
  refine wpAny_bind (wpAny_bind (wpAny_field hos hds (x := .none) rfl (wpAny_bind (wpAny_listPart .none ?_))))
  rw [if_neg hstep]
  refine wpAny_bind (wpAny_field hos hds (x := vl) rfl (wpAny_bind (wpAny_listPart pl ?_)))
  refine wpAny_bind (wpAny_field hos hds (x := .none) rfl (wpAny_bind (wpAny_listPart .none (wpAny_pure ?_))))
  refine wpAny_bind (m := Builtin.List.listItems (.ref l)) ?_
  unfold Builtin.List.listItems
  refine wpAny_bind (wpAny_seqItems e rfl (wpAny_pure ?_))
  have hb : sliceBounds lo none none its.toArray.size = (((HT.sIx its.length 0 lo : Nat) : Int), (((its.length : Nat) : Int), (1 : Int))) := by
    obtain ⟨h1, h2, h3⟩ := slice_bounds lo none its.toArray.size
    have e1 : its.toArray.size = its.length := List.size_toArray
    rw [e1] at h1 h2 h3 ⊢
    have h2' : (sliceBounds lo none none its.length).2.1 = ((its.length : Nat) : Int) := by rw [h2]; rfl
    exact Prod.ext h1 (Prod.ext h2' h3)
  refine wpAny_bind (wpAny_of_eq ((sliceIndices_raw lo none none its.toArray.size (by simp)).trans (congrArg (pure : Int × Int × Int → Sem (Int × Int × Int)) hb)) ?_)
  refine wpAny_bind (m := rule "list.__delitem__.slice") (wpAny_rule ?_)
  have pk := fun (sel : Nat → Bool) hs => pick_take (sel := sel) (a := HT.sIx its.length 0 lo) (n := its.length) hs its rfl
  refine wpAny_bind (m := updateSeq l _) (wpAny_updateSeq (hz := by rw [List.size_toArray]; exact hsz) (_hz' := ?_) e rfl ?_)
  rotate_left
  · refine Nat.le_trans (Nat.le_of_eq (congrArg Array.size (pk _ fun k => ?_))) ?_
    · show (decide (((HT.sIx its.length 0 lo : Nat) : Int) ≤ (k : Int)) && decide ((k : Int) < ((its.length : Nat) : Int)) && (((k : Int) - ((HT.sIx its.length 0 lo : Nat) : Int)) % 1 == 0)) = _
      rw [Int.emod_one]
      simp
    · rw [List.size_toArray, List.length_take]
      omega
  refine wpAny_bind (wpAny_letGo ?_)
  refine wpAny_pure ⟨_, rfl, h _ (pk _ fun k => ?_)⟩
  show (decide (((HT.sIx its.length 0 lo : Nat) : Int) ≤ (k : Int)) && decide ((k : Int) < ((its.length : Nat) : Int)) && (((k : Int) - ((HT.sIx its.length 0 lo : Nat) : Int)) % 1 == 0)) = _
  rw [Int.emod_one]
  simp
end
section
variable {X : Cx}
theorem del_slice {pins : List (Addr × Obj)} {s : Shared} {σ : L2.St} {H : Hp} {l sl : Addr} {xs : List V} {vl : Value} {lo : Option Int} {Q : Unit → Shared → Prop} (I : L2.Inv X pins σ H s)
    (hH : H l = some (.lst xs)) (hs : s.heap.IsSliceOf sl vl .none .none) (pl : IsPart vl lo)
    (h : ∀ s', L2.Inv X pins σ (upd H l (.lst (xs.take (HT.sIx xs.length 0 lo)))) s' → Q () s') :
    wpAny (model X.prog X.w) X.A (delItem (.ref l) (.ref sl)) Q X.xe s := by
  obtain ⟨z, its, n, r, hl, e⟩ := I.lstM hH
  refine delItem_from e hs pl (by omega) fun f hf => h _ ?_
  refine I.lset (its' := its.take (HT.sIx its.length 0 lo)) (t' := s.toks) hH e hf (by rw [← hl]; exact r.take _) ?_
  rw [List.length_take]
  omega
/-- del xs[a:] of a list -/
def tDelS (to : TE) (tl : TO) : TS := fun D σ H => to σ H fun x H1 => tl σ H1 fun lo H2 => ∃ (l : Addr) (xs : List V), x = .ref l ∧ H2 l = some (.lst xs) ∧ D.nx σ (upd H2 l (.lst (xs.take (HT.sIx xs.length 0 lo))))
theorem ps_delS {o : Expr} {lo : Option Expr} {to : TE} {tl : TO} {p2 tpos pos : Pos} (ho : PE X o to) (hl : PO X lo tl) : PS X (.Delete [.Subscript o (.Slice lo none none p2) tpos] pos) (tDelS to tl) := by
  refine ⟨fun pins s σ H D I h => ?_⟩
  refine wpAny_Delete (wpAny_deleteEach_cons (wpAny_delete_Subscript (thn (ho.run pins s σ H _ I h) fun u s1 ⟨x, H1, I1, rx, q1⟩ => ?_)))
  refine wpAny_Slice (thn (hl.run pins s1 σ H1 _ I1 q1) fun vl s2 ⟨l, H2, I2, pl, q2⟩ => ?_)
  rw [evalPart_none]
  refine wpAny_pure ?_
  refine wpAny_pure ?_
  obtain ⟨b, xs, ex, hH, q2⟩ := q2
  subst ex
  cases (show u = Value.ref b from rx)
  have I4 : L2.Inv X pins σ H2 { s2 with heap := s2.heap.push { cls := .type "slice", data := .fields #[vl, .none, .none] } } := I2.kept (t' := s2.toks) fun b ob q => Heap.get?_push_of_some _ q
  exact del_slice I4 hH (Heap.IsSliceOf.new ..) pl fun s3 I3 => wpAny_deleteEach_nil ⟨σ, _, I3, q2⟩
end
end BK

namespace BK
open PySem PySem.Spec PyProof.Rows L2 Builtin Builtin.Str

/-! ### texts as lists of codes -/
def tx (w : List Nat) : Str := ⟨w.toArray⟩
theorem tx_cps (w : List Nat) : (tx w).cps.toList = w := by unfold tx; simp
theorem tx_len (w : List Nat) : (tx w).length = w.length := by unfold tx; simp [Str.length]
theorem tx_inj {a b : List Nat} (h : tx a = tx b) : a = b := by
  have := congrArg (fun z : Str => z.cps.toList) h
  simpa [tx_cps] using this
theorem tx_of (z : Str) : tx z.cps.toList = z := Str.ext' (by unfold tx; simp)
theorem tx_ext {z : Str} {w : List Nat} (h : z.cps.toList = w) : z = tx w := by rw [← h, tx_of]
theorem tx_app (a b : List Nat) : tx a ++ tx b = tx (a ++ b) := tx_ext (by rw [Str.cps_append, Array.toList_append, tx_cps, tx_cps])
theorem tx_eq (a b : List Nat) : (V.str (tx a) = V.str (tx b)) ↔ a = b := ⟨fun h => tx_inj (V.str.inj h), fun h => by rw [h]⟩
theorem tx_one (c : Nat) : tx [c] = ⟨#[c]⟩ := rfl
theorem tx_nil : tx [] = "" := rfl

theorem cut_nn (w : List Nat) (i j : Nat) : cutS (tx w) (some (i : Int)) (some (j : Int)) = tx ((w.drop i).take (j - i)) := by
  refine tx_ext ?_
  unfold cutS
  rw [HT.sIx_nat, HT.sIx_nat, tx_cps, tx_len, List.toList_toArray]
  by_cases hi : i ≤ w.length
  · rw [Nat.min_eq_left hi]
    by_cases hj : j ≤ w.length
    · rw [Nat.min_eq_left hj]
    · rw [Nat.min_eq_right (by omega), List.take_of_length_le (by rw [List.length_drop]; omega), List.take_of_length_le (by rw [List.length_drop]; omega)]
  · rw [Nat.min_eq_right (show w.length ≤ i by omega), List.drop_length, List.drop_eq_nil_of_le (by omega), List.take_nil, List.take_nil]
theorem cut_n_ (w : List Nat) (i : Nat) : cutS (tx w) (some (i : Int)) none = tx (w.drop i) := by
  refine tx_ext ?_
  unfold cutS
  rw [HT.sIx_nat, HT.sIx_none, tx_cps, tx_len, List.toList_toArray]
  by_cases hi : i ≤ w.length
  · rw [Nat.min_eq_left hi, List.take_of_length_le (by rw [List.length_drop]; omega)]
  · rw [Nat.min_eq_right (by omega), List.drop_length, List.drop_eq_nil_of_le (by omega), List.take_nil]
theorem cut__n (w : List Nat) (j : Nat) : cutS (tx w) none (some (j : Int)) = tx (w.take j) := by
  refine tx_ext ?_
  unfold cutS
  rw [HT.sIx_nat, HT.sIx_none, tx_cps, tx_len, List.toList_toArray, List.drop_zero, Nat.sub_zero]
  by_cases hj : j ≤ w.length
  · rw [Nat.min_eq_left hj]
  · rw [Nat.min_eq_right (by omega), List.take_of_length_le (Nat.le_refl _), List.take_of_length_le (by omega)]

theorem foldl_app (l : List (List Nat)) : ∀ acc : Array Nat, ((l.map List.toArray).foldl (· ++ ·) acc).toList = acc.toList ++ l.flatten := by
  induction l with
  | nil => intro acc; simp
  | cons a l ih =>
    intro acc
    rw [List.map_cons, List.foldl_cons, ih, Array.toList_append, List.toList_toArray, List.flatten_cons, List.append_assoc]
theorem mul_tx (w : List Nat) (n : Nat) : Txt.mul (tx w) (n : Int) = tx (List.replicate n w).flatten := by
  refine tx_ext ?_
  unfold Txt.mul
  split
  · have : n = 0 := by omega
    subst this
    rfl
  · split
    · rename_i h1 h2
      rw [Bool.or_eq_true] at h2
      rcases h2 with h2 | h2
      · have : n = 1 := by have := eq_of_beq h2; omega
        subst this
        rw [tx_cps]
        simp
      · have : w = [] := by
          have := eq_of_beq h2
          rw [tx_len] at this
          exact List.eq_nil_of_length_eq_zero this
        subst this
        rw [tx_cps]
        simp
    · rw [Int.toNat_natCast]
      have e : List.replicate n (tx w).cps = (List.replicate n w).map List.toArray := by rw [List.map_replicate]; rfl
      show (List.foldl (· ++ ·) #[] (List.replicate n (tx w).cps)).toList = _
      rw [e, foldl_app]
      simp
theorem mul_ok {w : List Nat} {n : Nat} (L N : Nat) (h : w.length ≤ L) (hn : n ≤ N) (hN : N ≤ 16777216) (hL : L * N ≤ 16777216) : MulOk (tx w) (n : Int) :=
  mulOk_of L N (by rw [tx_len]; exact h) (by omega) (by omega) hN hL

theorem join_go : ∀ (ws : List (List Nat)) (acc : Array Nat), ((ws.map tx).foldl (fun acc p => acc ++ (tx []).cps ++ p.cps) acc).toList = acc.toList ++ ws.flatten
  | [], acc => by simp
  | a :: l, acc => by
    rw [List.map_cons, List.foldl_cons, join_go l, Array.toList_append, Array.toList_append, tx_cps, List.flatten_cons, tx_cps, List.append_nil, List.append_assoc]
theorem join_tx (ws : List (List Nat)) : Txt.join (tx []) (ws.map tx) = tx ws.flatten := by
  refine tx_ext ?_
  show (glued (tx []) (ws.map tx)).cps.toList = _
  unfold glued
  cases ws with
  | nil => rfl
  | cons a l =>
    show (((l.map tx)).foldl (fun acc p => acc ++ (tx []).cps ++ p.cps) (tx a).cps).toList = _
    rw [join_go, tx_cps, List.flatten_cons]

/-! ### how many of one sign -/
theorem sub_one (w : List Nat) (c i : Nat) : (i + (tx [c]).length ≤ (tx w).length ∧ subAt (tx w) (tx [c]) i = true) ↔ w[i]? = some c := by
  have h := StrLaws.subAt_one (tx w) c i
  rw [tx_cps] at h
  exact h
theorem occ_run (w : List Nat) (c : Nat) : ∀ (n i : Nat) (st : Array Nat × Nat), st.2 ≤ i → st.1.size ≤ i → i ≤ w.length →
    (forIn (List.range' i n) st (StrLaws.occBody (tx w) (tx [c]) (tx w).length ((tx w).length + 1))).run.1.size = st.1.size + ((w.drop i).take n).count c
  | 0, i, st, h1, h2, h3 => by simp
  | n + 1, i, st, h1, h2, h3 => by
    rw [List.range'_succ, List.forIn_cons]
    unfold StrLaws.occBody
    have hs := sub_one w c i
    by_cases hc : w[i]? = some c
    · have hq := hs.mpr hc
      have hlt : i < w.length := (List.getElem?_eq_some_iff.mp hc).1
      rw [if_pos ⟨⟨⟨by rw [tx_len]; omega, h1⟩, hq.1⟩, hq.2⟩]
      have ih := occ_run w c n (i + 1) (st.1.push i, i + (tx [c]).length) (by rw [tx_len]; exact Nat.le_refl _) (by rw [Array.size_push]; omega) hlt
      refine ih.trans ?_
      rw [Array.size_push, List.drop_eq_getElem_cons hlt, List.take_succ_cons, List.count_cons]
      have e : w[i] = c := (List.getElem?_eq_some_iff.mp hc).2
      rw [e, beq_self_eq_true, if_pos rfl]
      omega
    · rw [if_neg (fun z => hc (hs.mp ⟨z.1.2, z.2⟩))]
      by_cases hlt : i < w.length
      · have ih := occ_run w c n (i + 1) (st.1, st.2) (by show st.2 ≤ i + 1; omega) (by show st.1.size ≤ i + 1; omega) hlt
        refine ih.trans ?_
        rw [List.drop_eq_getElem_cons hlt, List.take_succ_cons, List.count_cons]
        have e : w[i] ≠ c := fun z => hc (by rw [List.getElem?_eq_getElem hlt, z])
        rw [beq_eq_false_iff_ne.mpr e, if_neg Bool.false_ne_true, Nat.add_zero]
        all_goals rfl
      · have e0 : ∀ (m j : Nat) (st : Array Nat × Nat), w.length ≤ j → (forIn (List.range' j m) st (StrLaws.occBody (tx w) (tx [c]) (tx w).length ((tx w).length + 1))).run.1.size = st.1.size := by
          intro m
          induction m with
          | zero => intro j st _; rfl
          | succ m ih =>
            intro j st hj
            rw [List.range'_succ, List.forIn_cons]
            unfold StrLaws.occBody
            rw [if_neg (fun z => by have := (sub_one w c j).mp ⟨z.1.2, z.2⟩; rw [List.getElem?_eq_none hj] at this; cases this)]
            exact ih (j + 1) (st.1, st.2) (by omega)
        refine (e0 n (i + 1) (st.1, st.2) (by omega)).trans ?_
        rw [List.drop_eq_nil_of_le (by omega), List.take_nil, List.count_nil, Nat.add_zero]
theorem count_tx (w : List Nat) (c : Nat) : Txt.count (tx w) (tx [c]) = (w.count c : Nat) := by
  unfold Txt.count
  rw [StrLaws.occ_eq, Array.length_toList]
  have h := occ_run w c ((tx w).length + 1 - 0) 0 (#[], 0) (Nat.le_refl _) (Nat.le_refl _) (Nat.zero_le _)
  rw [h, List.drop_zero, List.take_of_length_le (by rw [tx_len]; omega)]
  simp

/-! ### strip of signs -/
theorem takeWhile_all {p : Nat → Bool} : ∀ {l : List Nat}, l.all p = true → l.takeWhile p = l
  | [], _ => rfl
  | a :: l, h => by
    rw [List.all_cons, Bool.and_eq_true] at h
    rw [List.takeWhile_cons, if_pos h.1, takeWhile_all h.2]
theorem takeWhile_len {p : Nat → Bool} : ∀ (l : List Nat), l.all p = false → ∃ x, l[(l.takeWhile p).length]? = some x ∧ p x = false
  | [], h => by simp at h
  | a :: l, h => by
    rw [List.takeWhile_cons]
    by_cases ha : p a = true
    · rw [List.all_cons, ha, Bool.true_and] at h
      rw [if_pos ha]
      obtain ⟨x, h1, h2⟩ := takeWhile_len l h
      exact ⟨x, by rw [List.length_cons, List.getElem?_cons_succ]; exact h1, h2⟩
    · rw [if_neg ha]
      exact ⟨a, rfl, Bool.eq_false_iff.mpr ha⟩
theorem strip_iff (w y : List Nat) : (Txt.stripChars (tx w) (tx y) = tx []) ↔ w.all (y.contains ·) = true := by
  have hp : ∀ c, (tx y).cps.contains c = y.contains c := fun c => by unfold tx; simp
  have hp' : (tx y).cps.contains = fun c => y.contains c := funext hp
  unfold Txt.stripChars Txt.stripBy
  rw [hp']
  have hlo : stripLo (fun c => y.contains c) true (tx w) = (w.takeWhile fun c => y.contains c).length := by
    unfold stripLo
    rw [if_pos rfl, tx_cps]
  cases hall : w.all (y.contains ·) with
  | true =>
    have e := takeWhile_all (p := fun c => y.contains c) hall
    rw [e] at hlo
    refine ⟨fun _ => rfl, fun _ => ?_⟩
    by_cases hs : stripSame (fun c => y.contains c) true true (tx w) = true
    · rw [if_pos hs]
      unfold stripSame at hs
      rw [Bool.and_eq_true] at hs
      rw [hlo] at hs
      have : w.length = 0 := eq_of_beq hs.1
      rw [List.eq_nil_of_length_eq_zero this]
    · rw [if_neg hs]
      refine tx_ext ?_
      unfold stripped
      rw [hlo, StrLaws.strSub_toList, tx_cps, List.drop_length, List.take_nil]
  | false =>
    refine ⟨fun h => ?_, fun h => by cases h⟩
    exfalso
    obtain ⟨x, hx, hpx⟩ := takeWhile_len (p := fun c => y.contains c) w hall
    by_cases hs : stripSame (fun c => y.contains c) true true (tx w) = true
    · rw [if_pos hs] at h
      have : w = [] := tx_inj h
      subst this
      simp at hall
    · rw [if_neg hs] at h
      have h2 := congrArg (fun z : Str => z.cps.toList) h
      unfold stripped at h2
      simp only [StrLaws.strSub_toList, tx_cps, hlo] at h2
      have hlt : (w.takeWhile fun c => y.contains c).length < w.length := (List.getElem?_eq_some_iff.mp hx).1
      -- the right end lies behind x
      have hhi : (w.takeWhile fun c => y.contains c).length < stripHi (fun c => y.contains c) true (tx w) (w.takeWhile fun c => y.contains c).length := by
        unfold stripHi
        rw [if_pos rfl, tx_cps, tx_len]
        have hne : ((w.drop (w.takeWhile fun c => y.contains c).length).reverse).all (fun c => y.contains c) = false := by
          rw [List.all_reverse, List.drop_eq_getElem_cons hlt, List.all_cons]
          have e : w[(w.takeWhile fun c => y.contains c).length] = x := (List.getElem?_eq_some_iff.mp hx).2
          rw [e, hpx, Bool.false_and]
        obtain ⟨z, hz, _⟩ := takeWhile_len (p := fun c => y.contains c) _ hne
        have hl2 := (List.getElem?_eq_some_iff.mp hz).1
        rw [List.length_reverse, List.length_drop] at hl2
        omega
      have h3 := congrArg List.length h2
      rw [List.length_take, List.length_drop] at h3
      have hz : ([] : List Nat).length = 0 := rfl
      have hk : 0 < stripHi (fun c => y.contains c) true (tx w) (w.takeWhile fun c => y.contains c).length - (w.takeWhile fun c => y.contains c).length := by omega
      have h4 : (tx ([] : List Nat)).cps.toList.length = 0 := rfl
      have h5 : min (stripHi (fun c => y.contains c) true (tx w) (w.takeWhile fun c => y.contains c).length - (w.takeWhile fun c => y.contains c).length) (w.length - (w.takeWhile fun c => y.contains c).length) = 0 := h3
      omega
end BK

namespace BK
open PySem PySem.Spec PyProof.Rows L2

/-! ## list(text) -/
section
variable {X : Cx}
theorem signs_vals {x : Str} {acc : Array Value} (h : ItemsOf (SignAt x) acc x.cps.size) : Vals (x.cps.toList.map fun c => V.str (tx [c])) acc.toList := by
  refine vals_of_at ?_ fun j y u h1 h2 => ?_
  · rw [List.length_map, Array.length_toList, Array.length_toList, h.1]
  · obtain ⟨c, t, e1, e2⟩ := h.2 j u (by rw [← Array.getElem?_toList]; exact h2)
    rw [List.getElem?_map, Array.getElem?_toList, e1] at h1
    cases h1
    exact ⟨t, e2⟩
theorem call_listS (hc : X.calm = true) : CallR X (.type "list") (fun xs H Q => ∃ x : Str, xs = [.str x] ∧ x.cps.size ≤ sizeLine ∧ ∀ p, H p = none → Q (.ref p) (upd H p (.lst (x.cps.toList.map fun c => V.str (tx [c]))))) := by
  intro pins s σ H xs us Q I r h
  obtain ⟨x, e, hz, q⟩ := h
  subst e
  obtain ⟨u, eu, rx⟩ := vals1 r
  subst eu
  obtain ⟨t, rfl⟩ := rx
  refine call_list_str (I.ok.hd hc) x t (fun h' tk acc c' hk hD hacc => ?_) hz
  refine ⟨.ref s.heap.objs.size, upd H s.heap.objs.size (.lst (x.cps.toList.map fun c => V.str (tx [c]))), I.laid (t' := tk) hk (Nat.le_refl _)
    (show ObjOk X.prog X.w _ _ _ (.lst (x.cps.toList.map fun c => V.str (tx [c]))) from ⟨by rw [List.length_map, Array.length_toList]; exact hz, acc.toList, c', signs_vals hacc, by rw [Array.toArray_toList]; exact hD⟩), rfl, q _ (I.hok.fresh (Nat.le_refl _))⟩
end

/-! ## a dict of the module: texts by texts -/
def dtx (e : DictEntry) : Option (Str × Str) := match e.key, e.val with
  | .str x _, .str y _ => some (x, y)
  | _, _ => none
structure SDict (K : PySem.W.Frag) (w : World) (mg : Str → Option Value) (x : Str) (ps : List (Str × Str)) : Type where
  d : Addr
  es : Array DictEntry
  n : Nat
  g : mg x = some (.ref d)
  k : KDict K w d es n
  e : es.toList.map dtx = ps.map some
theorem dtx_find (z : Str) : ∀ (es : List DictEntry) (ps : List (Str × Str)), es.map dtx = ps.map some →
    (ps.lookup z = none → es.find? (·.key.isStr z) = none ∧ es.any (·.refKey) = false) ∧ (∀ y, ps.lookup z = some y → ∃ e t, es.find? (·.key.isStr z) = some e ∧ e.val = .str y t)
  | [], [], _ => ⟨fun _ => ⟨rfl, rfl⟩, fun y h => by cases h⟩
  | [], _ :: _, h => by cases h
  | _ :: _, [], h => by cases h
  | e :: es, p :: ps, h => by
    obtain ⟨h1, h2⟩ := List.cons.inj h
    have ih := dtx_find z es ps h2
    obtain ⟨a, b⟩ := p
    unfold dtx at h1
    split at h1
    · rename_i x t y t2 k1 k2
      have e3 := Option.some.inj h1
      obtain ⟨rfl, rfl⟩ := Prod.mk.inj e3
      have hk : e.key.isStr z = (x == z) := by rw [k1]; rfl
      have hr : e.refKey = false := by unfold DictEntry.refKey; rw [k1]
      by_cases hz : z = x
      · subst hz
        refine ⟨fun hh => ?_, fun y' hy => ?_⟩
        · rw [List.lookup_cons_self] at hh
          cases hh
        · rw [List.lookup_cons_self] at hy
          cases hy
          refine ⟨e, t2, ?_, k2⟩
          rw [List.find?_cons, hk]
          simp
      · have hb : (z == x) = false := beq_eq_false_iff_ne.mpr hz
        have hb2 : (x == z) = false := beq_eq_false_iff_ne.mpr fun q => hz q.symm
        refine ⟨fun hh => ?_, fun y' hy => ?_⟩
        · rw [List.lookup_cons, hb] at hh
          obtain ⟨i1, i2⟩ := ih.1 hh
          rw [List.find?_cons, hk, hb2, List.any_cons, hr]
          exact ⟨i1, i2⟩
        · rw [List.lookup_cons, hb] at hy
          obtain ⟨e', t', i1, i2⟩ := ih.2 y' hy
          refine ⟨e', t', ?_, i2⟩
          rw [List.find?_cons, hk, hb2]
          exact i1
    · cases h1
theorem SDict.none {K : PySem.W.Frag} {w : World} {mg : Str → Option Value} {x : Str} {ps : List (Str × Str)} (D : SDict K w mg x ps) {z : Str} (h : ps.lookup z = .none) : PySem.W.nsIn K D.d z = some .none := by
  obtain ⟨h1, h2⟩ := (dtx_find z _ _ D.e).1 h
  unfold PySem.W.nsIn
  rw [D.k.at_]
  dsimp only
  rw [h1]
  dsimp only
  rw [h2]
  rfl
theorem SDict.some {K : PySem.W.Frag} {w : World} {mg : Str → Option Value} {x : Str} {ps : List (Str × Str)} (D : SDict K w mg x ps) {z y : Str} (h : ps.lookup z = .some y) : ∃ t, PySem.W.nsIn K D.d z = some (.some (.str y t)) := by
  obtain ⟨e, t, h1, h2⟩ := (dtx_find z _ _ D.e).2 y h
  refine ⟨t, ?_⟩
  unfold PySem.W.nsIn
  rw [D.k.at_]
  dsimp only
  rw [h1]
  dsimp only
  rw [h2]
section
variable {X : Cx} {x : Str} {ps : List (Str × Str)}
theorem pe_sd {pos : Pos} (D : SDict X.K X.w X.mg x ps) (hg : Gl X x) (hd : (x == ("__debug__" : Str)) = false) : PE X (.Name x pos) (tC (.ref D.d)) := pe_glob hg D.g rfl hd
theorem op_in_sd (D : SDict X.K X.w X.mg x ps) : OpR X (compareOp .In) (fun a b H Q => ∃ z : Str, a = .str z ∧ b = .ref D.d ∧ Q (.bl (ps.lookup z).isSome) H) := by
  intro pins s σ H a b v u Q I rx ry h
  obtain ⟨z, e1, e2, q⟩ := h
  cases hl : ps.lookup z with
  | none =>
    rw [hl] at q
    exact op_in_kd D.k pins s σ H a b v u Q I rx ry ⟨z, .none, e1, e2, D.none hl, q⟩
  | some y =>
    rw [hl] at q
    obtain ⟨t, e⟩ := D.some hl
    exact op_in_kd D.k pins s σ H a b v u Q I rx ry ⟨z, _, e1, e2, e, q⟩
def oV : Option Str → V
  | none => .non
  | some y => .str y
def tSGet (d : Addr) (ps : List (Str × Str)) (to te : TE) : TE := fun σ H Q => to σ H fun x H1 => x = .ref d ∧ te σ H1 fun y H2 => ∃ z : Str, y = .str z ∧ Q (oV (ps.lookup z)) H2
theorem pe_sget {o e : Expr} {to te : TE} {apos cpos : Pos} (D : SDict X.K X.w X.mg x ps) (ho : PE X o to) (he : PE X e te) (m : M1 X o "get" apos e cpos) : PE X (.Call (.Attribute o "get" apos) [e] [] cpos) (tSGet D.d ps to te) := by
  refine ⟨fun pins s σ H Q I h => ?_⟩
  refine wpAny_Call_method m.base m.few m.line PySem.F.plainAttrs_dict PySem.F.slot_dict_get PySem.F.type_dict_get (thn (ho.run pins s σ H _ I h) fun u s1 ⟨x, H1, I1, rx, ex, q1⟩ => ?_)
  subst ex
  obtain rfl : u = Value.ref D.d := rx
  have hm0 := PySem.W.mapOf_K (prog := X.prog) (w := X.w) I1.kIn D.k.at_ D.k.lit
  refine ⟨hm0.typeIs, fun b e => ?_, ?_⟩
  · cases e
    exact ⟨_, I1.kIn _ _ D.k.at_, rfl⟩
  rw [m.trees]
  refine wpAny_dict_get1 (knd := PySem.strKind X.prog X.w) D.k.low (thn (he.run pins s1 σ H1 _ I1 q1) fun iv s2 ⟨y, H2, I2, ry, z, ey, q2⟩ => ?_)
  subst ey
  obtain ⟨t, rfl⟩ := ry
  refine ⟨z, _, PySem.strKind_is X.prog X.w z t, PySem.W.mapOf_K (prog := X.prog) (w := X.w) I2.kIn D.k.at_ D.k.lit, ?_⟩
  cases hl : ps.lookup z with
  | none =>
    rw [PySem.W.find_K D.k.at_ (D.none hl)]
    rw [hl] at q2
    exact ⟨.non, H2, I2.tok _, rfl, q2⟩
  | some y =>
    obtain ⟨t2, e⟩ := D.some hl
    rw [PySem.W.find_K D.k.at_ e]
    rw [hl] at q2
    exact ⟨.str y, H2, I2.tok _, ⟨t2, rfl⟩, q2⟩
end
theorem SDict.at {K : PySem.W.Frag} {w : World} {mg : Str → Option Value} {x : Str} {ps : List (Str × Str)} (D : SDict K w mg x ps) {z y : Str} (h : ps.lookup z = .some y) : KDct K w D.d z (.str y) := by
  obtain ⟨t, e⟩ := D.some h
  exact ⟨D.es, D.n, _, D.k.at_, D.k.lit, e, t, rfl⟩
/-! ## a dict of the module: texts by numbers -/
def dti (e : DictEntry) : Option (Str × Int) := match e.key, e.val with
  | .str x _, .int y _ => some (x, y)
  | _, _ => none
structure IDict (K : PySem.W.Frag) (w : World) (mg : Str → Option Value) (x : Str) (ps : List (Str × Int)) : Type where
  d : Addr
  es : Array DictEntry
  n : Nat
  g : mg x = some (.ref d)
  k : KDict K w d es n
  e : es.toList.map dti = ps.map some
theorem dti_find (z : Str) (y : Int) : ∀ (es : List DictEntry) (ps : List (Str × Int)), es.map dti = ps.map some → ps.lookup z = some y → ∃ e t, es.find? (·.key.isStr z) = some e ∧ e.val = .int y t
  | [], [], _, h => by cases h
  | [], _ :: _, h, _ => by cases h
  | _ :: _, [], h, _ => by cases h
  | e :: es, p :: ps, h, hy => by
    obtain ⟨h1, h2⟩ := List.cons.inj h
    obtain ⟨a, b⟩ := p
    unfold dti at h1
    split at h1
    · rename_i x t y' t2 k1 k2
      obtain ⟨rfl, rfl⟩ := Prod.mk.inj (Option.some.inj h1)
      have hk : e.key.isStr z = (x == z) := by rw [k1]; rfl
      by_cases hz : z = x
      · subst hz
        rw [List.lookup_cons_self] at hy
        cases hy
        refine ⟨e, t2, ?_, k2⟩
        rw [List.find?_cons, hk]
        simp
      · have hb : (z == x) = false := beq_eq_false_iff_ne.mpr hz
        have hb2 : (x == z) = false := beq_eq_false_iff_ne.mpr fun q => hz q.symm
        rw [List.lookup_cons, hb] at hy
        obtain ⟨e', t', i1, i2⟩ := dti_find z y es ps h2 hy
        refine ⟨e', t', ?_, i2⟩
        rw [List.find?_cons, hk, hb2]
        exact i1
    · cases h1
theorem IDict.at {K : PySem.W.Frag} {w : World} {mg : Str → Option Value} {x : Str} {ps : List (Str × Int)} (D : IDict K w mg x ps) {z : Str} {y : Int} (h : ps.lookup z = .some y) : KDct K w D.d z (.int y) := by
  obtain ⟨e, t, h1, h2⟩ := dti_find z y _ _ D.e h
  refine ⟨D.es, D.n, .int y t, D.k.at_, D.k.lit, ?_, t, rfl⟩
  unfold PySem.W.nsIn
  rw [D.k.at_]
  dsimp only
  rw [h1]
  dsimp only
  rw [h2]
theorem pe_id {X : Cx} {x : Str} {ps : List (Str × Int)} {pos : Pos} (D : IDict X.K X.w X.mg x ps) (hg : Gl X x) (hd : (x == ("__debug__" : Str)) = false) : PE X (.Name x pos) (tC (.ref D.d)) := pe_glob hg D.g rfl hd
end BK

namespace BK
open PySem PySem.Spec PyProof.Rows L2

/-! ### a word again and again -/
def rep (w : List Nat) (n : Nat) : List Nat := (List.replicate n w).flatten
theorem rep_zero (w : List Nat) : rep w 0 = [] := rfl
theorem rep_succ (w : List Nat) (n : Nat) : rep w (n + 1) = w ++ rep w n := by unfold rep; rw [List.replicate_succ, List.flatten_cons]
theorem rep_len (w : List Nat) : ∀ n, (rep w n).length = n * w.length
  | 0 => by rw [rep_zero]; simp
  | n + 1 => by rw [rep_succ, List.length_append, rep_len w n, Nat.add_mul, Nat.one_mul, Nat.add_comm]
theorem rep_add (w : List Nat) (m : Nat) : ∀ n, rep w (n + m) = rep w n ++ rep w m
  | 0 => by rw [Nat.zero_add, rep_zero, List.nil_append]
  | n + 1 => by rw [show n + 1 + m = (n + m) + 1 by omega, rep_succ, rep_add w m n, rep_succ, List.append_assoc]
theorem rep_get (w : List Nat) : ∀ (n i : Nat), i < n * w.length → (rep w n)[i]? = w[i % w.length]?
  | 0, i, h => by simp at h
  | n + 1, i, h => by
    rw [rep_succ]
    by_cases hi : i < w.length
    · rw [List.getElem?_append_left hi, Nat.mod_eq_of_lt hi]
    · have hn : w.length ≤ i := by omega
      have h2 : i - w.length < n * w.length := by rw [Nat.add_mul, Nat.one_mul] at h; omega
      rw [List.getElem?_append_right hn, rep_get w n _ h2, Nat.mod_eq_sub_mod hn]
theorem rep_count (w : List Nat) (c : Nat) : ∀ n, (rep w n).count c = n * w.count c
  | 0 => by rw [rep_zero]; simp
  | n + 1 => by rw [rep_succ, List.count_append, rep_count w c n, Nat.add_mul, Nat.one_mul, Nat.add_comm]
theorem rep_take {w : List Nat} (hw : w ≠ []) {n m : Nat} (h : m ≤ n * w.length) : (rep w n).take m = rep w (m / w.length) ++ w.take (m % w.length) := by
  have hp : 0 < w.length := List.length_pos_iff.mpr hw
  have hq : m / w.length ≤ n := by
    have := Nat.div_le_div_right (c := w.length) h
    rwa [Nat.mul_div_cancel _ hp] at this
  have e : n = m / w.length + (n - m / w.length) := by omega
  rw [e, rep_add]
  have hm : m = m / w.length * w.length + m % w.length := by rw [Nat.mul_comm]; exact (Nat.div_add_mod m w.length).symm
  rw [List.take_append, rep_len]
  have h1 : List.take m (rep w (m / w.length)) = rep w (m / w.length) := List.take_of_length_le (by rw [rep_len]; exact Nat.div_mul_le_self _ _)
  rw [h1]
  have h2 : m - m / w.length * w.length = m % w.length := by
    omega
  rw [h2]
  congr 1
  have hlt := Nat.mod_lt m hp
  cases hk : n - m / w.length with
  | zero =>
    have h3 : m ≤ m / w.length * w.length := by
      have e3 : n = m / w.length := by omega
      have h4 := h
      rw [e3] at h4
      exact h4
    have h5 : m % w.length = 0 := by omega
    rw [h5, rep_zero, List.take_zero, List.take_zero]
  | succ k => rw [rep_succ, List.take_append_of_le_length (by omega)]
theorem rep_take_count {w : List Nat} (hw : w ≠ []) {n m : Nat} (c : Nat) (h : m ≤ n * w.length) : ((rep w n).take m).count c = w.count c * (m / w.length) + (w.take (m % w.length)).count c := by
  rw [rep_take hw h, List.count_append, rep_count, Nat.mul_comm]

/-! ### texts by pieces -/
abbrev Pcs := List (List Nat × Nat)
def spell (ps : Pcs) : List Nat := (ps.map fun p => rep p.1 p.2).flatten
theorem spell_nil : spell [] = [] := rfl
theorem spell_cons (p : List Nat × Nat) (ps : Pcs) : spell (p :: ps) = rep p.1 p.2 ++ spell ps := by unfold spell; rw [List.map_cons, List.flatten_cons]
theorem spell_app (ps qs : Pcs) : spell (ps ++ qs) = spell ps ++ spell qs := by unfold spell; rw [List.map_append, List.flatten_append]
def size (ps : Pcs) : Nat := (ps.map fun p => p.1.length * p.2).sum
theorem spell_len (ps : Pcs) : (spell ps).length = size ps := by
  induction ps with
  | nil => rfl
  | cons p ps ih => rw [spell_cons, List.length_append, ih, rep_len]; unfold size; rw [List.map_cons, List.sum_cons, Nat.mul_comm]
theorem size_cons (p : List Nat × Nat) (ps : Pcs) : size (p :: ps) = p.1.length * p.2 + size ps := rfl
theorem size_take_succ (ps : Pcs) : ∀ {i : Nat} {p}, ps[i]? = some p → size (ps.take (i + 1)) = size (ps.take i) + p.1.length * p.2 := by
  induction ps with
  | nil => intro i p h; simp at h
  | cons q ps ih =>
    intro i p h
    cases i with
    | zero =>
      have e : q = p := by simpa using h
      subst e
      simp [size]
    | succ i =>
      have := ih (i := i) (p := p) (by simpa using h)
      rw [List.take_succ_cons, size_cons, this, List.take_succ_cons, size_cons, Nat.add_assoc]
theorem size_take_le (ps : Pcs) (i : Nat) : size (ps.take i) ≤ size ps := by
  induction ps generalizing i with
  | nil => simp
  | cons q ps ih =>
    cases i with
    | zero => simp [size]
    | succ i => rw [List.take_succ_cons, size_cons, size_cons]; have := ih i; omega

/-- small letters -/
def alpha : List Nat := [97, 98, 99, 100, 101, 102, 103, 104, 105, 106, 107, 108, 109, 110, 111, 112, 113, 114, 115, 116, 117, 118, 119, 120, 121, 122]
theorem tx_alpha : tx alpha = ("abcdefghijklmnopqrstuvwxyz" : Str) := by decide +kernel
def Plain (w : List Nat) : Prop := w.all (alpha.contains ·) = true
def Word (w : List Nat) : Prop := Plain w ∧ w ≠ [] ∧ w.length ≤ 60
structure Good (ps : Pcs) : Prop where
  few : ps.length ≤ 40
  ok : ∀ p ∈ ps, Word p.1 ∧ 1 ≤ p.2
  all : size ps ≤ 10 ^ 30

/-! ### things -/
inductive Dt where
  | non | bl (b : Bool) | int (i : Int) | str (w : List Nat) | lst (xs : List Dt) | tup (xs : List Dt) | dic
mutual
def At (K : PySem.W.Frag) (H : Hp) : V → Dt → Prop
  | v, .non => v = .non
  | v, .bl b => v = .bl b
  | v, .int i => v = .int i
  | v, .str w => v = .str (tx w) ∧ w.length ≤ 1000000
  | v, .lst ds => ∃ a xs, v = .ref a ∧ SqL K H a xs ∧ Ats K H xs ds
  | v, .tup ds => ∃ a xs, v = .ref a ∧ SqT K H a xs ∧ Ats K H xs ds
  | v, .dic => ∃ a, v = .ref a ∧ H a = some (.dK [])
def Ats (K : PySem.W.Frag) (H : Hp) : List V → List Dt → Prop
  | vs, [] => vs = []
  | vs, d :: ds => ∃ v us, vs = v :: us ∧ At K H v d ∧ Ats K H us ds
end
section
variable {K : PySem.W.Frag} {H H' : Hp}
mutual
theorem At.same (e : Same H H') : ∀ (d : Dt) (v : V), At K H v d → At K H' v d
  | .non, v, h => by unfold At at h ⊢; exact h
  | .bl _, v, h => by unfold At at h ⊢; exact h
  | .int _, v, h => by unfold At at h ⊢; exact h
  | .str _, v, h => by unfold At at h ⊢; exact h
  | .lst ds, v, h => by
    unfold At at h ⊢
    obtain ⟨a, xs, rfl, h1, h2⟩ := h
    exact ⟨a, xs, rfl, e.seq h1, Ats.same e ds xs h2⟩
  | .tup ds, v, h => by
    unfold At at h ⊢
    obtain ⟨a, xs, rfl, h1, h2⟩ := h
    exact ⟨a, xs, rfl, sameT e h1, Ats.same e ds xs h2⟩
  | .dic, v, h => by
    unfold At at h ⊢
    obtain ⟨a, rfl, h1⟩ := h
    exact ⟨a, rfl, e _ _ h1⟩
theorem Ats.same (e : Same H H') : ∀ (ds : List Dt) (vs : List V), Ats K H vs ds → Ats K H' vs ds
  | [], vs, h => by unfold Ats at h ⊢; exact h
  | d :: ds, vs, h => by
    unfold Ats at h ⊢
    obtain ⟨v, us, rfl, h1, h2⟩ := h
    exact ⟨v, us, rfl, At.same e d v h1, Ats.same e ds us h2⟩
end
theorem Ats.len : ∀ {ds : List Dt} {vs : List V}, Ats K H vs ds → vs.length = ds.length
  | [], vs, h => by unfold Ats at h; subst h; rfl
  | d :: ds, vs, h => by
    unfold Ats at h
    obtain ⟨v, us, rfl, _, h2⟩ := h
    rw [List.length_cons, List.length_cons, h2.len]
theorem Ats.get : ∀ {ds : List Dt} {vs : List V} {i : Nat} {d : Dt}, Ats K H vs ds → ds[i]? = some d → ∃ v, vs[i]? = some v ∧ At K H v d
  | [], vs, i, d, h, e => by simp at e
  | c :: ds, vs, i, d, h, e => by
    unfold Ats at h
    obtain ⟨v, us, rfl, h1, h2⟩ := h
    cases i with
    | zero =>
      have : c = d := by simpa using e
      subst this
      exact ⟨v, rfl, h1⟩
    | succ i => exact h2.get (by simpa using e)
end
/-- the type's name -/
def Dt.ty : Dt → String
  | .non => "NoneType"
  | .bl _ => "bool"
  | .int _ => "int"
  | .str _ => "str"
  | .lst _ => "list"
  | .tup _ => "tuple"
  | .dic => "dict"
theorem ty_known (d : Dt) : d.ty ∈ knownTy := by cases d <;> simp [Dt.ty, knownTy]
theorem At.ty {K : PySem.W.Frag} {H : Hp} {v : V} {d : Dt} (h : At K H v d) : TyB K H v d.ty := by
  cases d with
  | non => unfold At at h; subst h; exact .non
  | bl b => unfold At at h; subst h; exact .bl b
  | int i => unfold At at h; subst h; exact .int i
  | str w => unfold At at h; obtain ⟨rfl, _⟩ := h; exact .str _
  | lst ds => unfold At at h; obtain ⟨a, xs, rfl, h1, _⟩ := h; exact .lst h1
  | tup ds => unfold At at h; obtain ⟨a, xs, rfl, h1, _⟩ := h; exact .tup h1
  | dic => unfold At at h; obtain ⟨a, rfl, h1⟩ := h; exact .dK h1
/-- what is_row, is_whole, .. tell -/
def isRow : Dt → Bool
  | .lst _ => true
  | .tup _ => true
  | _ => false
def Dt.items : Dt → List Dt
  | .lst ds => ds
  | .tup ds => ds
  | _ => []
def isWhole (d : Dt) (lo : Int) : Bool := match d with
  | .int i => decide (lo ≤ i)
  | _ => false
def isWithin (d : Dt) (lo hi : Int) : Bool := match d with
  | .int i => decide (lo ≤ i) && decide (i ≤ hi)
  | _ => false
def isPlain : Dt → Bool
  | .str w => w.all (alpha.contains ·)
  | _ => false
def isLetter : Dt → Bool
  | .str w => w.all (alpha.contains ·) && decide (w.length = 1)
  | _ => false
def isClip : Dt → Bool
  | .str w => w.all (alpha.contains ·) && decide (w.length ≤ 60)
  | _ => false
def isWord : Dt → Bool
  | .str w => w.all (alpha.contains ·) && decide (w.length ≤ 60) && decide (w ≠ [])
  | _ => false
def isPiece (d : Dt) : Bool := isRow d && (match d.items with
  | [a, b] => isWord a && isWhole b 1
  | _ => false)
def pieceSize (d : Dt) : Int := match d.items with
  | [.str w, .int n] => (w.length : Int) * n
  | _ => 0
def isText (d : Dt) : Bool := isRow d && decide (d.items.length ≤ 40) && d.items.all isPiece && decide ((d.items.map pieceSize).sum ≤ 10 ^ 30)
/-- a text's pieces -/
def pcOf (d : Dt) : List Nat × Nat := match d.items with
  | [.str w, .int n] => (w, n.toNat)
  | _ => ([], 0)
def pcs (d : Dt) : Pcs := d.items.map pcOf
theorem isPiece_of {d : Dt} (h : isPiece d = true) : ∃ w n, d.items = [.str w, .int n] ∧ isRow d = true ∧ Word w ∧ 1 ≤ n := by
  unfold isPiece at h
  rw [Bool.and_eq_true] at h
  obtain ⟨h1, h2⟩ := h
  split at h2
  · rename_i a b e
    rw [Bool.and_eq_true] at h2
    obtain ⟨h3, h4⟩ := h2
    cases a with
    | str w =>
      cases b with
      | int n =>
        unfold isWord at h3
        unfold isWhole at h4
        simp only [Bool.and_eq_true, decide_eq_true_eq] at h3 h4
        exact ⟨w, n, e, h1, ⟨h3.1.1, h3.2, h3.1.2⟩, h4⟩
      | _ => simp [isWhole] at h4
    | _ => simp [isWord] at h3
  · cases h2
theorem sum_size : ∀ {ds : List Dt}, ds.all isPiece = true → (ds.map pieceSize).sum = (size (ds.map pcOf) : Int)
  | [], _ => rfl
  | d :: ds, h => by
    rw [List.all_cons, Bool.and_eq_true] at h
    obtain ⟨w, n, e, _, _, hn⟩ := isPiece_of h.1
    rw [List.map_cons, List.sum_cons, sum_size h.2, List.map_cons, size_cons]
    have e1 : pieceSize d = (w.length : Int) * n := by unfold pieceSize; rw [e]
    have e2 : pcOf d = (w, n.toNat) := by unfold pcOf; rw [e]
    rw [e1, e2, Int.natCast_add, Int.natCast_mul, Int.toNat_of_nonneg (by omega)]
theorem Good.of {d : Dt} (h : isText d = true) : Good (pcs d) := by
  unfold isText at h
  simp only [Bool.and_eq_true, decide_eq_true_eq] at h
  obtain ⟨⟨⟨h1, h2⟩, h3⟩, h4⟩ := h
  refine ⟨by unfold pcs; rw [List.length_map]; exact h2, fun p hp => ?_, ?_⟩
  · unfold pcs at hp
    obtain ⟨e, he, rfl⟩ := List.mem_map.mp hp
    obtain ⟨w, n, e1, _, hw, hn⟩ := isPiece_of (List.all_eq_true.mp h3 e he)
    have e2 : pcOf e = (w, n.toNat) := by unfold pcOf; rw [e1]
    rw [e2]
    exact ⟨hw, by show 1 ≤ n.toNat; omega⟩
  · rw [sum_size h3] at h4
    unfold pcs
    have : ((10 ^ 30 : Nat) : Int) = (10 ^ 30 : Int) := by decide
    omega

/-! ### a text in the heap, by its pieces -/
def PieceAt (K : PySem.W.Frag) (H : Hp) (v : V) (p : List Nat × Nat) : Prop := ∃ a, v = .ref a ∧ Row K H a [.str (tx p.1), .int p.2]
def TextAt (K : PySem.W.Frag) (H : Hp) (v : V) (ps : Pcs) : Prop := ∃ a xs, v = .ref a ∧ Row K H a xs ∧ Paired (PieceAt K H) xs ps
theorem prd_same {α β : Type} {R S : α → β → Prop} (f : ∀ a b, R a b → S a b) : ∀ {xs : List α} {ys : List β}, Paired R xs ys → Paired S xs ys
  | _, _, .nil => .nil
  | _, _, .cons h t => .cons (f _ _ h) (prd_same f t)
theorem PieceAt.same {K : PySem.W.Frag} {H H' : Hp} {v : V} {p} (e : Same H H') (h : PieceAt K H v p) : PieceAt K H' v p := by
  obtain ⟨a, rfl, h⟩ := h
  exact ⟨a, rfl, h.same e⟩
theorem TextAt.same {K : PySem.W.Frag} {H H' : Hp} {v : V} {ps} (e : Same H H') (h : TextAt K H v ps) : TextAt K H' v ps := by
  obtain ⟨a, xs, rfl, h1, h2⟩ := h
  exact ⟨a, xs, rfl, h1.same e, prd_same (fun _ _ => PieceAt.same e) h2⟩
theorem at_row {K : PySem.W.Frag} {H : Hp} {v : V} {d : Dt} (h : At K H v d) (hr : isRow d = true) : ∃ a xs, v = .ref a ∧ Row K H a xs ∧ Ats K H xs d.items := by
  cases d with
  | lst ds => unfold At at h; obtain ⟨a, xs, rfl, h1, h2⟩ := h; exact ⟨a, xs, rfl, .inl h1, h2⟩
  | tup ds => unfold At at h; obtain ⟨a, xs, rfl, h1, h2⟩ := h; exact ⟨a, xs, rfl, .inr h1, h2⟩
  | _ => simp [isRow] at hr
theorem pieceAt_of {K : PySem.W.Frag} {H : Hp} {v : V} {d : Dt} (h : At K H v d) (hp : isPiece d = true) : PieceAt K H v (pcOf d) := by
  obtain ⟨w, n, e, hr, hw, hn⟩ := isPiece_of hp
  obtain ⟨a, xs, rfl, h1, h2⟩ := at_row h hr
  rw [e] at h2
  unfold Ats at h2
  obtain ⟨v1, us, rfl, g1, h2⟩ := h2
  unfold Ats at h2
  obtain ⟨v2, us, rfl, g2, h2⟩ := h2
  unfold Ats at h2
  subst h2
  unfold At at g1 g2
  obtain ⟨rfl, _⟩ := g1
  subst g2
  have e2 : pcOf d = (w, n.toNat) := by unfold pcOf; rw [e]
  rw [e2]
  refine ⟨a, rfl, ?_⟩
  show Row K H a [.str (tx w), .int (n.toNat : Int)]
  rw [Int.toNat_of_nonneg (by omega)]
  exact h1
theorem textAt_of {K : PySem.W.Frag} {H : Hp} {v : V} {d : Dt} (h : At K H v d) (ht : isText d = true) : TextAt K H v (pcs d) := by
  unfold isText at ht
  simp only [Bool.and_eq_true, decide_eq_true_eq] at ht
  obtain ⟨⟨⟨h1, h2⟩, h3⟩, h4⟩ := ht
  obtain ⟨a, xs, rfl, g1, g2⟩ := at_row h h1
  refine ⟨a, xs, rfl, g1, ?_⟩
  unfold pcs
  generalize hd : d.items = ds at g2 h3
  clear hd h4 h1 h2 g1 h
  induction ds generalizing xs with
  | nil => unfold Ats at g2; subst g2; exact .nil
  | cons c ds ih =>
    unfold Ats at g2
    obtain ⟨v, us, rfl, k1, k2⟩ := g2
    rw [List.all_cons, Bool.and_eq_true] at h3
    exact .cons (pieceAt_of k1 h3.1) (ih us k2 h3.2)
theorem prd_at {α β : Type} {R : α → β → Prop} {xs : List α} {ys : List β} (h : Paired R xs ys) : ∀ {i : Nat} {x : α}, xs[i]? = some x → ∃ y, ys[i]? = some y ∧ R x y := by
  induction h with
  | nil => intro i x e; simp at e
  | cons h t ih =>
    intro i x e
    cases i with
    | zero =>
      have := Option.some.inj e
      subst this
      exact ⟨_, rfl, h⟩
    | succ i => exact ih (by simpa using e)
theorem prd_len {α β : Type} {R : α → β → Prop} {xs : List α} {ys : List β} (h : Paired R xs ys) : xs.length = ys.length := Paired.length h

theorem at_ofA {α : Type} {xs : List α} {z : Int} {j : Nat} {v : α} (e : z = (j : Int)) (h : xs[j]? = some v) : atI xs z = some v := by
  rw [e]
  exact atI_nat h
/-! ### readings over rows -/
section
variable {K : PySem.W.Frag} {H : Hp} {a : Addr} {xs : List V}
theorem ix_row {i : Int} {x : V} {Q : VK} (h : Row K H a xs) (e : atI xs i = some x) (q : Q x H) : rIx K (.ref a) (.int i) H Q := by
  rcases h with h | h
  · exact .inl ⟨a, xs, i, x, rfl, rfl, h, e, q⟩
  · exact .inr (.inl ⟨a, xs, i, x, rfl, rfl, h, e, q⟩)
theorem ix_lst {i : Int} {x : V} {Q : VK} (h : H a = some (.lst xs)) (e : atI xs i = some x) (q : Q x H) : rIx K (.ref a) (.int i) H Q := ix_row (.inl (SqL.of h)) e q
theorem ix_tx {z : List Nat} {i : Int} {c : Nat} {Q : VK} (h : z.length ≤ 1000000) (e : atI z i = some c) (q : Q (.str (tx [c])) H) : rIx K (.str (tx z)) (.int i) H Q :=
  .inr (.inr ⟨tx z, i, c, rfl, rfl, by rw [tx_len]; exact Nat.le_trans h (by decide), by rw [tx_cps]; exact e, q⟩)
theorem len_row {Q : VK} (h : Row K H a xs) (q : Q (.int xs.length) H) : rLenA K [.ref a] H Q := .inl ⟨a, xs, rfl, h, q⟩
theorem len_tx {w : List Nat} {Q : VK} (h : w.length ≤ 1000000) (q : Q (.int w.length) H) : rLenA K [.str (tx w)] H Q :=
  .inr ⟨tx w, rfl, by rw [tx_len]; exact Nat.le_trans h (by decide), by rw [tx_len]; exact q⟩
end
theorem Ats.at {K : PySem.W.Frag} {H : Hp} : ∀ {ds : List Dt} {vs : List V} {i : Nat} {v : V}, Ats K H vs ds → vs[i]? = some v → ∃ d, ds[i]? = some d ∧ At K H v d
  | [], vs, i, v, h, e => by unfold Ats at h; subst h; simp at e
  | c :: ds, vs, i, v, h, e => by
    unfold Ats at h
    obtain ⟨x, us, rfl, h1, h2⟩ := h
    cases i with
    | zero =>
      have : x = v := by simpa using e
      subst this
      exact ⟨c, rfl, h1⟩
    | succ i => exact h2.at (by simpa using e)
theorem isum_take : ∀ {l : List Int} {i : Nat} {z : Int}, l[i]? = some z → (l.take (i + 1)).sum = (l.take i).sum + z := sum_take
theorem all_take_succ {α : Type} {p : α → Bool} {l : List α} {i : Nat} {x : α} (h : (l.take i).all p = true) (e : l[i]? = some x) (hx : p x = true) : (l.take (i + 1)).all p = true := by
  rw [List.take_add_one, e, List.all_append, h]
  simp [hx]
end BK

namespace BK
open PySem PySem.Spec PyProof.Rows L2

/-! ### stretches of a word again and again -/
def cyc (w : List Nat) (at_ many : Nat) : List Nat := ((rep w ((at_ % w.length + many) / w.length + 1)).drop (at_ % w.length)).take many
theorem cyc_get {w : List Nat} (hw : w ≠ []) (a m i : Nat) (h : i < m) : (cyc w a m)[i]? = w[(a + i) % w.length]? := by
  have hp : 0 < w.length := List.length_pos_iff.mpr hw
  unfold cyc
  rw [List.getElem?_take, if_pos h, List.getElem?_drop, rep_get]
  · rw [Nat.mod_add_mod]
  · have h1 := Nat.lt_div_mul_add (a := a % w.length + m) hp
    rw [Nat.add_mul, Nat.one_mul]
    omega
theorem drop_rep {w : List Nat} (hw : w ≠ []) {n a m : Nat} (h : a + m ≤ n * w.length) : ((rep w n).drop a).take m = cyc w a m := by
  apply List.ext_getElem?
  intro i
  by_cases hi : i < m
  · rw [cyc_get hw a m i hi, List.getElem?_take, if_pos hi, List.getElem?_drop, rep_get _ _ _ (by omega)]
  · have hp : 0 < w.length := List.length_pos_iff.mpr hw
    rw [List.getElem?_take, if_neg hi]
    unfold cyc
    rw [List.getElem?_take, if_neg hi]
theorem cyc_len {w : List Nat} (hw : w ≠ []) (a m : Nat) : (cyc w a m).length = m := by
  have hp : 0 < w.length := List.length_pos_iff.mpr hw
  unfold cyc
  rw [List.length_take, List.length_drop, rep_len]
  have h1 := Nat.lt_div_mul_add (a := a % w.length + m) hp
  rw [Nat.add_mul, Nat.one_mul]
  omega

theorem rep_mem {x : List Nat} {c : Nat} : ∀ {n : Nat}, c ∈ rep x n → c ∈ x
  | 0, h => by cases h
  | n + 1, h => by
    rw [rep_succ] at h
    rcases List.mem_append.mp h with h | h
    · exact h
    · exact rep_mem h
/-! ### spans -/
abbrev Span := Nat × Nat × List Nat
def spansOf : Nat → Pcs → List Span
  | _, [] => []
  | s, p :: ps => (s, s + p.1.length * p.2, p.1) :: spansOf (s + p.1.length * p.2) ps
theorem spansOf_len : ∀ (ps : Pcs) (s : Nat), (spansOf s ps).length = ps.length
  | [], _ => rfl
  | p :: ps, s => by unfold spansOf; rw [List.length_cons, spansOf_len ps, List.length_cons]
theorem spansOf_get : ∀ (ps : Pcs) (s i : Nat) (p), ps[i]? = some p → (spansOf s ps)[i]? = some (s + size (ps.take i), s + size (ps.take i) + p.1.length * p.2, p.1)
  | [], s, i, p, h => by simp at h
  | q :: ps, s, 0, p, h => by
    have : q = p := by simpa using h
    subst this
    simp [spansOf, size]
  | q :: ps, s, i + 1, p, h => by
    unfold spansOf
    rw [List.getElem?_cons_succ, spansOf_get ps _ i p (by simpa using h), List.take_succ_cons, size_cons]
    simp only [Nat.add_assoc]
theorem spansOf_at (ps : Pcs) {i : Nat} {x : Span} (h : (spansOf 0 ps)[i]? = some x) : ∃ p, ps[i]? = some p ∧ x = (size (ps.take i), size (ps.take i) + p.1.length * p.2, p.1) := by
  have hl := (List.getElem?_eq_some_iff.mp h).1
  rw [spansOf_len] at hl
  refine ⟨ps[i], List.getElem?_eq_getElem hl, ?_⟩
  have := spansOf_get ps 0 i ps[i] (List.getElem?_eq_getElem hl)
  rw [this] at h
  have := Option.some.inj h
  rw [← this]
  simp only [Nat.zero_add]
def SpanAt (H : Hp) (v : V) (x : Span) : Prop := ∃ a, v = .ref a ∧ H a = some (.tup [.int x.1, .int x.2.1, .str (tx x.2.2)])
def SpansAt (H : Hp) (a : Addr) (xs : List Span) : Prop := ∃ us, H a = some (.lst us) ∧ Paired (SpanAt H) us xs
theorem SpanAt.same {H H' : Hp} {v : V} {x : Span} (e : Same H H') (h : SpanAt H v x) : SpanAt H' v x := by
  obtain ⟨a, rfl, h⟩ := h
  exact ⟨a, rfl, e _ _ h⟩
theorem SpansAt.same {H H' : Hp} {a : Addr} {xs : List Span} (e : Same H H') (h : SpansAt H a xs) : SpansAt H' a xs := by
  obtain ⟨us, h1, h2⟩ := h
  exact ⟨us, e _ _ h1, prd_same (fun _ _ => SpanAt.same e) h2⟩
theorem SpanAt.upd {H : Hp} {v : V} {x : Span} {o : Addr} {us vs : List V} (ho : H o = some (.lst us)) (h : SpanAt H v x) : SpanAt (upd H o (.lst vs)) v x := by
  obtain ⟨a, rfl, h⟩ := h
  exact ⟨a, rfl, by rw [upd_ne (ne_of h ho (by intro z; cases z))]; exact h⟩
theorem prd_snoc {α β : Type} {R : α → β → Prop} {xs : List α} {ys : List β} {x : α} {y : β} (h : Paired R xs ys) (hxy : R x y) : Paired R (xs ++ [x]) (ys ++ [y]) := by
  induction h with
  | nil => exact .cons hxy .nil
  | cons a t ih => exact .cons a ih
theorem same_mut {H H' : Hp} {p : Addr} {o : HO} (e : Same H H') (h : H p = none) : Same H (upd H' p o) := fun a u ha => by
  rw [upd_ne (ne_of_none ha h)]
  exact e a u ha
/-- the spans' end -/
theorem spansOf_last {ps : Pcs} (h : ps ≠ []) : ∃ p s, ps.getLast? = some p ∧ (spansOf 0 ps).getLast? = some (s, size ps, p.1) := by
  have hp : 0 < ps.length := List.length_pos_iff.mpr h
  have e := List.getElem?_eq_getElem (l := ps) (i := ps.length - 1) (by omega)
  refine ⟨ps[ps.length - 1], size (ps.take (ps.length - 1)), by rw [List.getLast?_eq_getElem?, e], ?_⟩
  rw [List.getLast?_eq_getElem?, spansOf_len, spansOf_get ps 0 _ _ e, Nat.zero_add, ← size_take_succ ps e, show ps.length - 1 + 1 = ps.length by omega, List.take_length]

/-! ### looks, counts, so-manieths of what is spelled -/
theorem spell_take_succ {ps : Pcs} {i : Nat} {p} (h : ps[i]? = some p) : spell (ps.take (i + 1)) = spell (ps.take i) ++ rep p.1 p.2 := by
  rw [List.take_add_one, h, spell_app]
  show _ ++ spell [p] = _
  rw [spell_cons, spell_nil, List.append_nil]
theorem look_app (A B : List Nat) (p m : Nat) : ((A ++ B).drop p).take m = (A.drop p).take m ++ (B.drop (max A.length p - A.length)).take (min (A.length + B.length) (p + m) - max A.length p) := by
  rw [List.drop_append, List.take_append, List.length_drop]
  congr 1
  rw [show max A.length p - A.length = p - A.length by omega]
  by_cases h : m - (A.length - p) ≤ B.length - (p - A.length)
  · congr 1
    omega
  · rw [List.take_of_length_le (by rw [List.length_drop]; omega), List.take_of_length_le (by rw [List.length_drop]; omega)]
theorem count_app (A B : List Nat) (c m : Nat) : ((A ++ B).take m).count c = (A.take m).count c + (B.take (min (A.length + B.length) m - A.length)).count c := by
  rw [List.take_append, List.count_append]
  congr 2
  by_cases h : m - A.length ≤ B.length
  · congr 1
    omega
  · rw [List.take_of_length_le (by omega), List.take_of_length_le (by omega)]
/-- the places of a sign -/
def pos (w : List Nat) (c : Nat) : List Nat := (List.range w.length).filter fun i => w[i]? == some c
def IsNth (l : List Nat) (c k i : Nat) : Prop := l[i]? = some c ∧ (l.take i).count c = k
theorem posTo (w : List Nat) (c : Nat) : ∀ n, n ≤ w.length → ((List.range n).filter fun i => w[i]? == some c).length = (w.take n).count c ∧
    ∀ k i, ((List.range n).filter fun i => w[i]? == some c)[k]? = some i → IsNth w c k i
  | 0, _ => ⟨by simp, fun k i h => by simp at h⟩
  | n + 1, hn => by
    obtain ⟨ih1, ih2⟩ := posTo w c n (by omega)
    rw [List.range_succ, List.filter_append]
    have hg : w[n]? = some w[n] := List.getElem?_eq_getElem (by omega)
    by_cases hc : w[n] = c
    · have e : (List.filter (fun i => w[i]? == some c) [n]) = [n] := by
        rw [List.filter_cons, hg, hc]
        simp
      rw [e]
      have hcount : (w.take (n + 1)).count c = (w.take n).count c + 1 := by
        rw [List.take_add_one, hg, List.count_append, hc]
        simp
      refine ⟨by rw [List.length_append, ih1, hcount]; rfl, fun k i h => ?_⟩
      by_cases hk : k < ((List.range n).filter fun i => w[i]? == some c).length
      · rw [List.getElem?_append_left hk] at h
        exact ih2 k i h
      · rw [List.getElem?_append_right (by omega)] at h
        have hk0 : k - ((List.range n).filter fun i => w[i]? == some c).length = 0 := by
          have := (List.getElem?_eq_some_iff.mp h).1
          simp at this
          omega
        rw [hk0] at h
        have hi : n = i := by simpa using h
        subst hi
        refine ⟨by rw [hg, hc], ?_⟩
        rw [← ih1]
        omega
    · have e : (List.filter (fun i => w[i]? == some c) [n]) = [] := by
        rw [List.filter_cons, hg]
        simp [hc]
      rw [e, List.append_nil]
      have hcount : (w.take (n + 1)).count c = (w.take n).count c := by
        rw [List.take_add_one, hg, List.count_append]
        simp [hc]
      exact ⟨by rw [ih1, hcount], ih2⟩
theorem pos_len (w : List Nat) (c : Nat) : (pos w c).length = w.count c := by
  have := (posTo w c w.length (Nat.le_refl _)).1
  rw [List.take_length] at this
  exact this
theorem pos_get {w : List Nat} {c k i : Nat} (h : (pos w c)[k]? = some i) : IsNth w c k i := (posTo w c w.length (Nat.le_refl _)).2 k i h
theorem nth_rep {w : List Nat} {c q r i n : Nat} (h : IsNth w c r i) (hq : q < n) : IsNth (rep w n) c (q * w.count c + r) (q * w.length + i) := by
  have hi := (List.getElem?_eq_some_iff.mp h.1).1
  have e : n = q + ((n - q - 1) + 1) := by omega
  rw [e, rep_add, rep_succ]
  constructor
  · rw [List.getElem?_append_right (by rw [rep_len]; omega), rep_len, show q * w.length + i - q * w.length = i by omega, List.getElem?_append_left hi]
    exact h.1
  · rw [List.take_append, rep_len, List.count_append, List.take_of_length_le (by rw [rep_len]; omega), rep_count, show q * w.length + i - q * w.length = i by omega, List.take_append_of_le_length (by omega), h.2]
theorem nth_app_right {A B : List Nat} {c k i : Nat} (h : IsNth B c k i) : IsNth (A ++ B) c (A.count c + k) (A.length + i) := by
  constructor
  · rw [List.getElem?_append_right (by omega), show A.length + i - A.length = i by omega]
    exact h.1
  · rw [List.take_append, List.count_append, List.take_of_length_le (by omega), show A.length + i - A.length = i by omega, h.2]
theorem nth_app_left {A B : List Nat} {c k i : Nat} (h : IsNth A c k i) : IsNth (A ++ B) c k i := by
  have hi := (List.getElem?_eq_some_iff.mp h.1).1
  exact ⟨by rw [List.getElem?_append_left hi]; exact h.1, by rw [List.take_append_of_le_length (by omega)]; exact h.2⟩
theorem sum_le_len : ∀ (ss : List (List Nat)), (ss.map (·.length)).sum = ss.flatten.length
  | [] => rfl
  | a :: r => by rw [List.map_cons, List.sum_cons, sum_le_len r, List.flatten_cons, List.length_append]
end BK

namespace BK
open PySem PySem.Spec PyProof.Rows L2

/-! ### two rows of letters that go round -/
theorem two_rounds {u v : Nat → Option Nat} {p q low high : Nat} (hp : 0 < p) (hq : 0 < q) (hu : ∀ i, low ≤ i → i + p < high → u (i + p) = u i) (hv : ∀ i, low ≤ i → i + q < high → v (i + q) = v i)
    (h : ∀ i, low ≤ i → i < low + p + q → i < high → u i = v i) : ∀ n i, i ≤ n → low ≤ i → i < high → u i = v i
  | 0, i, hn, hl, hh => h i hl (by omega) hh
  | n + 1, i, hn, hl, hh => by
    by_cases hi : i < low + p + q
    · exact h i hl hi hh
    · have ih := two_rounds hp hq hu hv h n
      have e1 : u i = u (i - p) := by
        have := hu (i - p) (by omega) (by omega)
        rwa [show i - p + p = i by omega] at this
      have e2 := ih (i - p) (by omega) (by omega) (by omega)
      have e3 : v (i - p) = v (i - p - q) := by
        have := hv (i - p - q) (by omega) (by omega)
        rwa [show i - p - q + q = i - p by omega] at this
      have e4 := ih (i - p - q) (by omega) (by omega) (by omega)
      have e5 : u (i - q) = u (i - p - q) := by
        have := hu (i - p - q) (by omega) (by omega)
        rwa [show i - p - q + p = i - q by omega] at this
      have e6 := ih (i - q) (by omega) (by omega) (by omega)
      have e7 : v i = v (i - q) := by
        have := hv (i - q) (by omega) (by omega)
        rwa [show i - q + q = i by omega] at this
      rw [e1, e2, e3, ← e4, ← e5, e6, e7]
/-- between two ends a text is one word again and again, or has ended -/
def Round (A : List Nat) (low high : Nat) : Prop := ∃ p, 0 < p ∧ p ≤ 60 ∧ ∀ i, low ≤ i → i + p < high → A[i + p]? = A[i]?
theorem round_of : ∀ (ps : Pcs) (low high : Nat), (∀ x ∈ ps, x.1 ≠ [] ∧ x.1.length ≤ 60) → low < high → (∀ k, k < ps.length → size (ps.take (k + 1)) ≤ low ∨ high ≤ size (ps.take (k + 1))) →
    size ps ≤ low ∨ (high ≤ size ps ∧ Round (spell ps) low high)
  | [], low, high, _, _, _ => .inl (Nat.zero_le _)
  | x :: ps, low, high, hg, hlh, he => by
    have hx := hg x (List.mem_cons_self ..)
    have hp : 0 < x.1.length := List.length_pos_iff.mpr hx.1
    have e0 : size ((x :: ps).take (0 + 1)) = x.1.length * x.2 := by simp [size]
    have hmul : x.2 * x.1.length = x.1.length * x.2 := Nat.mul_comm _ _
    by_cases hl : low < x.1.length * x.2
    · have h1 := he 0 (by simp)
      rw [e0] at h1
      have h2 : high ≤ x.1.length * x.2 := by omega
      refine .inr ⟨by rw [size_cons]; omega, x.1.length, hp, hx.2, fun i h3 h4 => ?_⟩
      rw [spell_cons, List.getElem?_append_left (by rw [rep_len, hmul]; omega), List.getElem?_append_left (by rw [rep_len, hmul]; omega), rep_get _ _ _ (by rw [hmul]; omega), rep_get _ _ _ (by rw [hmul]; omega), Nat.add_mod_right]
    · have ih := round_of ps (low - x.1.length * x.2) (high - x.1.length * x.2) (fun y hy => hg y (List.mem_cons_of_mem _ hy)) (by omega) (fun k hk => by
        have := he (k + 1) (by rw [List.length_cons]; omega)
        rw [List.take_succ_cons, size_cons] at this
        omega)
      rcases ih with ih | ⟨ih1, p, ih2, ih3, ih4⟩
      · exact .inl (by rw [size_cons]; omega)
      · refine .inr ⟨by rw [size_cons]; omega, p, ih2, ih3, fun i h3 h4 => ?_⟩
        have := ih4 (i - x.1.length * x.2) (by omega) (by omega)
        rw [spell_cons, List.getElem?_append_right (by rw [rep_len, hmul]; omega), List.getElem?_append_right (by rw [rep_len, hmul]; omega), rep_len, hmul]
        rw [show i + p - x.1.length * x.2 = i - x.1.length * x.2 + p by omega]
        exact this
/-- told so far alike, and so on the next stretch: alike to the next end -/
theorem alike_on {A B : List Nat} {low high : Nat} (hlh : low ≤ high) (h0 : A.take low = B.take low)
    (hA : A.length ≤ low ∨ (high ≤ A.length ∧ Round A low high)) (hB : B.length ≤ low ∨ (high ≤ B.length ∧ Round B low high))
    (h : (A.drop low).take (min (high - low) 120) = (B.drop low).take (min (high - low) 120)) : A.take high = B.take high := by
  by_cases he : low = high
  · rw [← he]
    exact h0
  have hlt : low < high := by omega
  have hl := congrArg List.length h
  rw [List.length_take, List.length_take, List.length_drop, List.length_drop] at hl
  rcases hA with hA | ⟨hA, p, hp, hp2, hpA⟩
  · rcases hB with hB | ⟨hB, _⟩
    · rw [List.take_of_length_le hA, List.take_of_length_le hB] at h0
      rw [h0]
    · omega
  · rcases hB with hB | ⟨hB, q, hq, hq2, hqB⟩
    · omega
    · have hag : ∀ i, low ≤ i → i < low + p + q → i < high → A[i]? = B[i]? := fun i h1 h2 h3 => by
        have e := congrArg (fun l => l[i - low]?) h
        simp only [List.getElem?_take, List.getElem?_drop] at e
        rw [if_pos (by omega), if_pos (by omega), show low + (i - low) = i by omega] at e
        exact e
      have hall := two_rounds (u := fun i => A[i]?) (v := fun i => B[i]?) hp hq hpA hqB hag
      apply List.ext_getElem?
      intro i
      rw [List.getElem?_take, List.getElem?_take]
      by_cases hi : i < high
      · rw [if_pos hi, if_pos hi]
        by_cases hil : i < low
        · have e := congrArg (fun l => l[i]?) h0
          simp only [List.getElem?_take] at e
          rw [if_pos hil, if_pos hil] at e
          exact e
        · exact hall i i (Nat.le_refl _) (by omega) hi
      · rw [if_neg hi, if_neg hi]
/-- the first place at which two rows are unlike -/
def Unlike (A B : List Nat) (i : Nat) : Prop := A.take i = B.take i ∧ A[i]? ≠ B[i]?
theorem Unlike.symm {A B : List Nat} {i : Nat} (h : Unlike A B i) : Unlike B A i := ⟨h.1.symm, h.2.symm⟩
theorem Unlike.uniq {A B : List Nat} {i j : Nat} (h : Unlike A B i) (k : Unlike A B j) : i = j := by
  have key : ∀ {i j : Nat}, Unlike A B i → Unlike A B j → ¬ i < j := fun {i j} h k hlt => by
    have e := congrArg (fun l => l[i]?) k.1
    simp only [List.getElem?_take] at e
    rw [if_pos hlt, if_pos hlt] at e
    exact h.2 e
  have h1 := key h k
  have h2 := key k h
  omega
theorem Unlike.ne {A B : List Nat} {i : Nat} (h : Unlike A B i) : A ≠ B := fun z => h.2 (by rw [z])
theorem Unlike.le {A B : List Nat} {i : Nat} (h : Unlike A B i) : i ≤ max A.length B.length := by
  by_cases hi : i ≤ max A.length B.length
  · exact hi
  · exact absurd (by rw [List.getElem?_eq_none (by omega), List.getElem?_eq_none (by omega)]) h.2
theorem unlike_on {A B : List Nat} {low many at_ : Nat} (h0 : A.take low = B.take low) (h : Unlike ((A.drop low).take many) ((B.drop low).take many) at_) : Unlike A B (low + at_) := by
  obtain ⟨h1, h2⟩ := h
  have hlt : at_ < many := by
    by_cases hm : at_ < many
    · exact hm
    · refine absurd ?_ h2
      rw [List.getElem?_eq_none (by rw [List.length_take]; omega), List.getElem?_eq_none (by rw [List.length_take]; omega)]
  rw [List.take_take, List.take_take, Nat.min_eq_left (by omega)] at h1
  rw [List.getElem?_take, List.getElem?_take, if_pos hlt, if_pos hlt, List.getElem?_drop, List.getElem?_drop] at h2
  refine ⟨?_, h2⟩
  rw [List.take_add, List.take_add, h0, h1]
end BK

namespace BK
open PySem PySem.Spec PyProof.Rows L2

/-! ## defs that ask for a repr: known is that no repr is under way around them -/
structure FnG (P : Program) (w : World) (K : PySem.W.Frag) (mg : Str → Option Value) (base : Heap) (C : CXT) (k : Nat) (f : Addr) (fd : FuncData) (ps : List Str) (sp : Sp) : Prop where
  ln : ∀ vs H Q E, sp vs H Q E → vs.length = ps.length
  go : ∀ (A : Around) (out : List Env) (s : Shared) (H : Hp) (ar : Args) (us : List Value) (vs : List V) (Q : VK) (E : XK), A.guards = some [] → Room k A → Env0 P w K mg base A out s H →
    BindsTo s fd ar (ps.zip us) → Vals vs us → sp vs H Q E → codeAny (model P w) A (.call (.ref f) ar) (CR C out P w H s Q E) s
section
variable {P : Program} {w : World} {K : PySem.W.Frag} {mg : Str → Option Value} {base : Heap} {C : CXT} {k : Nat} {f : Addr} {fd : FuncData} {ps : List Str} {sp : Sp}
theorem FnG.up {j : Nat} (F : FnG P w K mg base C j f fd ps sp) (h : j ≤ k) : FnG P w K mg base C k f fd ps sp :=
  ⟨F.ln, fun A out s H ar us vs Q E hg hr => F.go A out s H ar us vs Q E hg (hr.mono h)⟩
/-- its body keeps the promise -/
theorem fnG_of {nm ql : Str} {pa : Arguments} {bd : List Stmt} {sc : Scope} {dv kv dc pm cv ct oc : Value} {an od : Option Addr} {sl : Array (Option Value)} {N : List Str}
    (lk : K.lookup f = some ⟨oc, od, .func (PySem.W.fnOf nm ql pa bd sc dv kv dc pm an cv ct), sl⟩) (hc : PySem.W.codeIn K cv ql = true) (S : FnScope N ps sc) (ln : ∀ vs H Q E, sp vs H Q E → vs.length = ps.length)
    (hb : ∀ (A : Around) (out : List Env) (s : Shared) (H : Hp) (vs : List V) (Q : VK) (E : XK), A.guards = some [] → Room k (A.deeper (envOfC ql sc s.heap.objs.size f cv)) → sp vs H Q E →
      ∃ t, PSs (cxOf C P w K mg base N ql sc f cv A out s H E) bd t ∧ t { nx := fun _ H' => Q .non H', rt := Q } (start N vs) H) :
    FnG P w K mg base C (k + 1) f (PySem.W.fnOf nm ql pa bd sc dv kv dc pm an cv ct) ps sp := by
  refine ⟨ln, ?_⟩
  intro A out s H ar us vs Q E hg hr e0 hbd r hsp
  have hlen := ln _ _ _ _ hsp
  have hK : K.In s.heap := e0.mod.kin.keeps (fun b o e => (e0.bs b o e).1)
  have hlim : s.heap.NoLimit := e0.mod.nolimit.keeps (fun b o e => (e0.bs b o e).1)
  have hki : ∀ z ∈ ps.zip us, sc.names.lookup z.1 = some .local ∨ (sc.names.lookup z.1 = some .cell ∧ ((cellsFrom (s.heap.objs.size + 1) sc.names []).lookup z.1).isSome = true) := by
    rintro ⟨n, v⟩ hz
    rcases S.par n (List.of_mem_zip hz).1 with h | h
    · exact Or.inl h
    · exact Or.inr ⟨h, PySem.W.cellsFrom_some _ _ _ (Or.inl h)⟩
  refine codeAny_call_function hr.depth (hK _ _ lk) rfl S.co S.gen rfl (PySem.W.codeRec_of hK hc) (hbd _ _ _ _ ?_)
  refine wpAny_newFunctionEnv_cells S.kind hki (fun en hen sB xi => ?_)
  subst hen
  refine ⟨hlim.keeps xi.toInCall.keep, codeAny_func ?_⟩
  obtain ⟨t, ht, hq⟩ := hb A out s H vs Q E hg (hr.deeper _) hsp
  have J0 : Inv (cxOf C P w K mg base N ql sc f cv A out s H E) [] (start N vs) H sB := inv_start S hr.hd e0 hlen r xi
  refine wpAny_mono (ht.run [] sB (start N vs) H _ J0 hq) (fun fl sE hE => ?_) (fun e sE hE => hE)
  cases fl with
  | ret u =>
    obtain ⟨v, τ, HE, J, rv, q⟩ := hE
    exact ⟨v, HE, J.os, J.bare, J.base, J.hok, rv, q⟩
  | next =>
    obtain ⟨τ, HE, J, q⟩ := hE
    exact ⟨V.non, HE, J.os, J.bare, J.base, J.hok, (rfl : RelV .non Value.none), q⟩
  | brk => exact hE.elim fun _ z => z.elim fun _ z => z.2.elim
  | cont => exact hE.elim fun _ z => z.elim fun _ z => z.2.elim
end
section
variable {P : Program} {w : World} {K : PySem.W.Frag} {mg : Str → Option Value} {base : Heap}
theorem funG {x ql : Str} {st : Stmt} {f : Addr} {fd : FuncData} {N ps : List Str} {k : Nat} {sp : Sp} (F : Fun K x ql st f fd) (S : FnScope N ps (defScope st)) (ln : ∀ vs H Q E, sp vs H Q E → vs.length = ps.length)
    (hb : ∀ (cv : Value) (A : Around) (out : List Env) (s : Shared) (H : Hp) (vs : List V) (Q : VK) (E : XK), A.guards = some [] → Room k (A.deeper (envOfC ql (defScope st) s.heap.objs.size f cv)) → sp vs H Q E →
      ∃ t, PSs (cxOf CX0 P w K mg base N ql (defScope st) f cv A out s H E).nox (defBody st) t ∧ t { nx := fun _ H' => Q .non H', rt := Q } (start N vs) H) : FnG P w K mg base CX0 (k + 1) f fd ps sp := by
  obtain ⟨oc, od, kv, dc, pm, an, cv, ct, sl, rfl, lk, hc⟩ := F.ex
  exact fnG_of lk hc S ln fun A out s H vs Q E hg hr hsp => let ⟨t, h, q⟩ := hb cv A out s H vs Q E hg hr hsp; ⟨t, h.nox, q⟩
end
section
variable {X : Cx} {C : CXT} {k : Nat} {f : Addr} {fd : FuncData} {ps : List Str} {sp : Sp} {dvs : List V} {ds : List Value} {E : XK} {x : Str} {p pos : Pos} {e : Expr} {es : List Expr} {t : TA}
theorem run_G {pins : List (Addr × Obj)} {σ : L2.St} {H : Hp} {s : Shared} {Q : VK} {us : List Value} {vs : List V} (F : FnG X.prog X.w X.K X.mg X.base C k f fd ps sp) (hg : X.A.guards = some []) (hr : Room k X.A) (hb : Binds X.K fd ps ds) (hd : Vals dvs ds) (hx : Passes C X E)
    (I : L2.Inv X pins σ H s) (r : Vals vs us) (h : sp (vs ++ dvs) H Q E) : wpAny (model X.prog X.w) X.A (call (.ref f) us) (EP X pins σ Q) X.xe s := by
  have rr : Vals (vs ++ dvs) (us ++ ds) := r.append hd
  have hl : (us ++ ds).length = ps.length := rr.length.symm.trans (F.ln _ _ _ _ h)
  refine wpAny_call (codeAny_mono (F.go X.A X.stack s H ⟨us, []⟩ (us ++ ds) (vs ++ dvs) Q E hg hr I.env0 (hb s us I.kIn hl) rr h) (fun r sE hE => ?_))
  match r, hE with
  | .error e, hE => exact hx pins σ H s e sE I hE
  | .ok (.ret u), hE => exact I.after hE
theorem pe_callG (F : FnG X.prog X.w X.K X.mg X.base C k f fd ps sp) (hg : X.A.guards = some []) (hr : Room k X.A) (hgl : Gl X x) (hm : X.mg x = some (.ref f)) (hk : PySem.W.keepIn X.K (.ref f) = true) (hb : Binds X.K fd ps ds) (hd : Vals dvs ds) (hx : Passes C X E)
    (ha : PA X (e :: es) t) (hdb : (x == ("__debug__" : Str)) = false := by decide) (he : starEach (e :: es) X.env = (false, eval e X.env) :: starEach es X.env := by rfl) (hpl : (backTo pos (starEach es X.env)).any (·.1) = false := by rfl) :
    PE X (.Call (.Name x p) (e :: es) [] pos) (tCall sp dvs E t) := by
  constructor
  intro pins s σ H Q I h
  refine wpAny_Call_Name_kw (ld_glob I hgl hm ?_ hdb)
  exact PySem.W.callWith_K (h₀ := X.base) I.ok.mod.kin hk (thn (ha.run pos pins s σ H _ I h) (fun us sB ⟨vs, HB, J, r, q⟩ => ⟨J.kIn, run_G F hg hr hb hd hx J r q⟩)) he hpl
end

/-! ## the law's promise at the heap behind the top -/
/-- the modules' dict stands in the ground -/
def Mods (b : Heap) : Prop := ∃ mm, b.Ns sysModules mm
/-- a law that may ask for reprs, from what its def promises -/
theorem law_G {P : Program} {w : World} {K : PySem.W.Frag} {mg mb : Str → Option Value} {C : CXT} {k : Nat} {fa a : Addr} {fd : FuncData} {x : Str} {sp : Sp} {s : Shared} {vs : List Value} {ns : List Int}
    (KX : K.In s.heap) (hmod : Mods s.heap) (hns : s.heap.Ns mainGlobals mg) (hb : s.heap.Ns builtinsNs mb) (hbb : ∀ x : Str, x ≠ "__name__" → mb x = bootBuiltins x) (hlim : s.heap.NoLimit) (hgen : s.gens = #[])
    (ha : s.heap.get? a = some { cls := .type "list", data := .seq vs.toArray }) (hi : IntsAre vs ns) (hl : ns.length ≤ sizeLine) (hr : Room k callerA)
    (F : ∀ b : Heap, K.In b → b.Ns mainGlobals mg → Mods b → FnG P w K mg b C k fa fd [x] sp) (hbind : ∀ (s : Shared) (u : Value), BindsTo s fd ⟨[u], []⟩ [(x, u)])
    (hsp : ∀ H : Hp, Only H → SqL K H a (ns.map V.int) → sp [.ref a] H (fun v _ => v = .bl true) fun _ _ _ => False)
    (hC : ∀ H e s', C [] H s (fun _ _ _ => False) e s' → False) :
    codeAny (model P w) callerA (.call (.ref fa) ⟨[.ref a], []⟩) (fun r s' => r = .ok (.ret (.bool true)) ∧ OldK s.heap s'.heap ∧ s'.os = s.os ∧ AllBare s'.gens) s := by
  have rv := vals_ints hi
  have lv := hi.length
  -- H tracks nothing, or the script alone
  suffices core : ∀ H : Hp, Only H → SqL K H a (ns.map V.int) → HOk P w H s.heap → (∀ b, H b ≠ none → b = a) → (H a ≠ none → K.lookup a = none) →
      codeAny (model P w) callerA (.call (.ref fa) ⟨[.ref a], []⟩) (fun r s' => r = .ok (.ret (.bool true)) ∧ OldK s.heap s'.heap ∧ s'.os = s.os ∧ AllBare s'.gens) s by
    cases hk : K.lookup a with
    | some o =>
      have e := (KX a o hk).symm.trans ha
      cases e
      exact core (fun _ => none) (fun _ => .inl rfl) (.inr ⟨_, vs.toArray, _, hk, rfl, rfl, rfl, by rw [List.size_toArray, lv]; exact hl, by simpa using rv⟩) (fun b u z => nomatch z) (fun b z => absurd rfl z) (fun z => absurd rfl z)
    | none =>
      let o : HO := .frz { cls := .type "list", data := .seq vs.toArray } (.lst (ns.map V.int))
      have at_a : ∀ {b u}, upd (fun _ => none) a o b = some u → b = a ∧ u = o := fun {b u} z => by
        by_cases hba : b = a
        · subst hba
          rw [upd_same] at z
          exact ⟨rfl, (Option.some.inj z).symm⟩
        · rw [upd_ne hba] at z
          exact nomatch z
      have uo : upd (fun _ => none) a o a = some (.frz { cls := .type "list", data := .seq vs.toArray } (.lst (ns.map V.int))) := upd_same
      refine core (upd (fun _ => none) a o) (fun b => ?_) (.inl (.inr ⟨_, uo⟩)) (fun b u z => ?_) (fun b z => ?_) (fun _ => hk)
      · by_cases hba : b = a
        · subst hba
          exact Or.inr ⟨_, _, uo⟩
        · exact .inl (upd_ne hba)
      · obtain ⟨rfl, rfl⟩ := at_a z
        exact ⟨ha, by rw [List.length_map]; exact hl, vs, _, rv, ha⟩
      · cases q : upd (fun _ => none) a o b with
        | none => exact absurd q z
        | some u => exact (at_a q).1
  intro H hO hS hok hA hKa
  have low : ∀ {b : Addr} {o : Obj}, s.heap.get? b = some o → (H b ≠ none → False) → (hidT s.heap H).get? b = some o := fun {b o} e n => by
    refine hidT_get e ?_
    cases q : H b with
    | none => rfl
    | some u => exact (n (by rw [q]; exact nofun)).elim
  have nsK : ∀ {b : Addr} {m : Str → Option Value}, s.heap.Ns b m → (hidT s.heap H).Ns b m := by
    rintro b m ⟨o, es, ep, e, d, r⟩
    refine ⟨o, es, ep, low e (fun n => ?_), d, r⟩
    have eb := hA b n
    subst eb
    have eo := e.symm.trans ha
    cases eo
    cases (show Data.seq vs.toArray _ = Data.dict es ep from d)
  have hKb : K.In (hidT s.heap H) := fun b o e => low (KX b o e) (fun n => by
    have eb := hA b n
    subst eb
    rw [hKa n] at e
    cases e)
  obtain ⟨mc, hm1, hm2⟩ := hlim
  have hM : Mod K mg (hidT s.heap H) := ⟨hKb, nsK hns, ⟨mb, nsK hb, hbb⟩, mc, nsK hm1, hm2⟩
  have e0 : Env0 P w K mg (hidT s.heap H) callerA [] s H := ⟨rfl, hM, fun b o e => of_hidT e, Nat.le_of_eq (hidT_size _ _), trivial, fun b hb => (List.not_mem_nil hb).elim, hok, .of_eq hgen⟩
  refine codeAny_mono ((F _ hKb (nsK hns) (hmod.imp fun mm h => nsK h)).go callerA [] s H ⟨[.ref a], []⟩ [.ref a] [.ref a] _ _ rfl hr e0 (hbind s (.ref a)) (.cons rfl .nil) (hsp H hO hS)) (fun r s' h => ?_)
  match r, h with
  | .error e, h => exact (hC H e s' h).elim
  | .ok (.ret u), h =>
    obtain ⟨v, HE, os, bare, un, hokE, rr, q⟩ := h
    obtain rfl : v = .bl true := q
    obtain rfl : u = Value.bool true := rr
    refine ⟨rfl, OldK.of_keep (fun b o e => ?_), os, bare⟩
    rcases hO b with z | ⟨ob, xs, z⟩
    · exact un.keep b o e z (fun z => (List.not_mem_nil z).elim) (fun z => (List.not_mem_nil z).elim)
    · have e1 := (hok b _ z).1
      have e2 := (hokE b _ (un.frzs b ob _ z)).1
      rw [e] at e1
      cases e1
      exact e2
theorem walk_G {l : PySem.W.OpenLaw} {n k : Nat} {q : Program} {lo : List Str} {XP : (Str → Option Value) → Heap → Prop} {YP : World → Heap → Prop} {d : DefRec} {K : Params → PySem.W.Frag} {C : World → CXT} {sp : World → Sp} {x : Str}
    (hn : l.most = some n) (hz : n ≤ sizeLine) (hi : PyProof.Rows.importsNone q = true) (hdf : d.params.defaults = []) (hr : Room k callerA) (hY : ∀ (w : World) (h : Heap), YP w h → (K w.params).In h)
    (F : ∀ (w : World) (mg : Str → Option Value) (fa : Addr) (h : Heap), (K w.params).In h → h.Ns mainGlobals mg → mg d.name = some (.ref fa) →
      ∃ fd : FuncData, (∀ (s : Shared) (u : Value), BindsTo s fd ⟨[u], []⟩ [(x, u)]) ∧ ∀ b : Heap, (K w.params).In b → b.Ns mainGlobals mg → Mods b → FnG l.prog w (K w.params) mg b (C w) k fa fd [x] (sp w))
    (hsp : ∀ (w : World) (H : Hp) (a : Addr) (ns : List Int), ns.length ≤ n → Only H → SqL (K w.params) H a (ns.map V.int) → sp w [.ref a] H (fun v _ => v = .bl true) fun _ _ _ => False)
    (hC : ∀ (w : World) (H : Hp) (s : Shared) (e : Value) (s' : Shared), C w [] H s (fun _ _ _ => False) e s' → False) :
    PySem.W.WalkO q lo XP YP l.row.toRowW d [] (fun f vs => PySem.call f vs) := by
  refine Att.attach_call hn hdf ?_
  intro w s0 s1 mg mb fa o pm cd doc a vs ns G Y ho hd hcd hmg hob hin hle hgn
  obtain ⟨fd, hb, hF⟩ := F w mg fa _ (hY w _ Y) G.T.g hmg
  exact law_G (hY w _ Y) ((G.T.seer hi).mods.imp fun _ h => h.1) G.T.g G.T.b G.T.builtins G.T.nolimit hgn hob hin (Nat.le_trans hle hz) hr hF hb (fun H hO hS => hsp w H a ns hle hO hS) (fun H e s' => hC w H s1 e s')
end BK

namespace BK
open PySem PySem.Spec PyProof.Rows L2

/-! ## reprs of handed things -/
mutual
def Dt.py : Dt → PyData
  | .non => .none
  | .bl b => .bool b
  | .int i => .int i
  | .str w => .str (tx w)
  | .lst ds => .list (pyAll ds)
  | .tup ds => .tuple (pyAll ds)
  | .dic => .dict []
def pyAll : List Dt → List PyData
  | [] => []
  | d :: ds => d.py :: pyAll ds
end
mutual
/-- what has a short repr; no dict within -/
def Fits : Dt → Prop
  | .non => True
  | .bl _ => True
  | .int i => i.natAbs < 10 ^ 47
  | .str w => ∀ c ∈ w, c < 4294967296
  | .lst ds => FitsAll ds
  | .tup ds => FitsAll ds
  | .dic => False
def FitsAll : List Dt → Prop
  | [] => True
  | d :: ds => Fits d ∧ FitsAll ds
end
mutual
def deep : Dt → Nat
  | .lst ds => deepAll ds + 1
  | .tup ds => deepAll ds + 1
  | .dic => 1
  | _ => 0
def deepAll : List Dt → Nat
  | [] => 0
  | d :: ds => max (deep d) (deepAll ds)
end
mutual
def bulk : Dt → Nat
  | .str w => w.length
  | .lst ds => bulkAll ds
  | .tup ds => bulkAll ds
  | _ => 0
def bulkAll : List Dt → Nat
  | [] => 0
  | d :: ds => bulk d + 1 + bulkAll ds
end
theorem fitsAll_of : ∀ {ds : List Dt}, (∀ d ∈ ds, Fits d) → FitsAll ds
  | [], _ => by unfold FitsAll; trivial
  | d :: ds, h => by unfold FitsAll; exact ⟨h d (List.mem_cons_self ..), fitsAll_of fun x hx => h x (List.mem_cons_of_mem _ hx)⟩
theorem deepAll_le {n : Nat} : ∀ {ds : List Dt}, (∀ d ∈ ds, deep d ≤ n) → deepAll ds ≤ n
  | [], _ => by unfold deepAll; exact Nat.zero_le _
  | d :: ds, h => by
    unfold deepAll
    have h1 := h d (List.mem_cons_self ..)
    have h2 := deepAll_le (n := n) (ds := ds) fun x hx => h x (List.mem_cons_of_mem _ hx)
    omega
theorem bulkAll_le {n : Nat} : ∀ {ds : List Dt}, (∀ d ∈ ds, bulk d ≤ n) → bulkAll ds ≤ ds.length * (n + 1)
  | [], _ => by unfold bulkAll; exact Nat.zero_le _
  | d :: ds, h => by
    unfold bulkAll
    have h1 := h d (List.mem_cons_self ..)
    have h2 := bulkAll_le (n := n) (ds := ds) fun x hx => h x (List.mem_cons_of_mem _ hx)
    rw [List.length_cons, Nat.add_mul, Nat.one_mul]
    omega
mutual
theorem depth_py : ∀ d : Dt, d.py.depth = deep d
  | .non => by simp only [Dt.py, PyData.depth, deep]
  | .bl _ => by simp only [Dt.py, PyData.depth, deep]
  | .int _ => by simp only [Dt.py, PyData.depth, deep]
  | .str _ => by simp only [Dt.py, PyData.depth, deep]
  | .lst ds => by simp only [Dt.py, PyData.depth, deep, depth_all ds]
  | .tup ds => by simp only [Dt.py, PyData.depth, deep, depth_all ds]
  | .dic => by simp only [Dt.py, PyData.depth, PyData.depthKv, deep]
theorem depth_all : ∀ ds : List Dt, PyData.depthAll (pyAll ds) = deepAll ds
  | [] => by simp only [pyAll, PyData.depthAll, deepAll]
  | d :: ds => by simp only [pyAll, PyData.depthAll, deepAll, depth_py d, depth_all ds]
end
mutual
theorem bulk_py : ∀ d : Dt, d.py.bulk = bulk d
  | .non => by simp only [Dt.py, PyData.bulk, bulk]
  | .bl _ => by simp only [Dt.py, PyData.bulk, bulk]
  | .int _ => by simp only [Dt.py, PyData.bulk, bulk]
  | .str w => by simp only [Dt.py, PyData.bulk, bulk, tx, List.size_toArray]
  | .lst ds => by simp only [Dt.py, PyData.bulk, bulk, bulk_all ds]
  | .tup ds => by simp only [Dt.py, PyData.bulk, bulk, bulk_all ds]
  | .dic => by simp only [Dt.py, PyData.bulk, PyData.bulkKv, bulk]
theorem bulk_all : ∀ ds : List Dt, PyData.bulkAll (pyAll ds) = bulkAll ds
  | [] => by simp only [pyAll, PyData.bulkAll, bulkAll]
  | d :: ds => by simp only [pyAll, PyData.bulkAll, bulkAll, bulk_py d, bulk_all ds]
end
theorem int48 {i : Int} (h : i.natAbs < 10 ^ 47) : (PyData.shown (.int i)).length ≤ 48 := by
  show (Str.ofString (toString i)).length ≤ 48
  rw [PySem.ofString_length]
  exact int_text_length_le10 (k := 47) (by decide) h
theorem int_log {i : Int} (h : i.natAbs < 10 ^ 47) : i.natAbs.log2 < 1920 := by
  have h2 : i.natAbs < 2 ^ 160 := Nat.lt_of_lt_of_le h (by decide)
  by_cases h0 : i.natAbs = 0
  · rw [h0]
    decide
  · have := (Nat.log2_lt h0).mpr h2
    omega
mutual
theorem fits_short : ∀ d : Dt, Fits d → d.py.leavesShort 48 = true
  | .non, _ => by simp only [Dt.py, PyData.leavesShort]
  | .bl _, _ => by simp only [Dt.py, PyData.leavesShort]
  | .int i, h => by
    unfold Fits at h
    simp only [Dt.py, PyData.leavesShort, decide_eq_true_eq]
    exact int48 h
  | .str w, h => by
    unfold Fits at h
    simp only [Dt.py, PyData.leavesShort, tx_cps, List.all_eq_true, decide_eq_true_eq]
    exact fun c hc => h c hc
  | .lst ds, h => by
    unfold Fits at h
    simp only [Dt.py, PyData.leavesShort]
    exact fitsAll_short ds h
  | .tup ds, h => by
    unfold Fits at h
    simp only [Dt.py, PyData.leavesShort]
    exact fitsAll_short ds h
  | .dic, h => by unfold Fits at h; exact h.elim
theorem fitsAll_short : ∀ ds : List Dt, FitsAll ds → PyData.leavesShortAll 48 (pyAll ds) = true
  | [], _ => by simp only [pyAll, PyData.leavesShortAll]
  | d :: ds, h => by
    unfold FitsAll at h
    simp only [pyAll, PyData.leavesShortAll, Bool.and_eq_true]
    exact ⟨fits_short d h.1, fitsAll_short ds h.2⟩
end
mutual
theorem fits_show : ∀ d : Dt, Fits d → d.py.showable = true ∧ d.py.hasDict = false
  | .non, _ => by simp only [Dt.py, PyData.showable, PyData.hasDict, and_self]
  | .bl _, _ => by simp only [Dt.py, PyData.showable, PyData.hasDict, and_self]
  | .int i, h => by
    unfold Fits at h
    simp only [Dt.py, PyData.showable, PyData.hasDict, decide_eq_true_eq, and_true]
    exact int_log h
  | .str w, h => by simp only [Dt.py, PyData.showable, PyData.hasDict, and_self]
  | .lst ds, h => by
    unfold Fits at h
    simp only [Dt.py, PyData.showable, PyData.hasDict]
    exact fitsAll_show ds h
  | .tup ds, h => by
    unfold Fits at h
    simp only [Dt.py, PyData.showable, PyData.hasDict]
    exact fitsAll_show ds h
  | .dic, h => by unfold Fits at h; exact h.elim
theorem fitsAll_show : ∀ ds : List Dt, FitsAll ds → PyData.showableAll (pyAll ds) = true ∧ PyData.hasDictAll (pyAll ds) = false
  | [], _ => by simp only [pyAll, PyData.showableAll, PyData.hasDictAll, and_self]
  | d :: ds, h => by
    unfold FitsAll at h
    have h1 := fits_show d h.1
    have h2 := fitsAll_show ds h.2
    simp only [pyAll, PyData.showableAll, PyData.hasDictAll, h1.1, h1.2, h2.1, h2.2, Bool.and_self, Bool.or_self, and_self]
end
section
variable {X : Cx} {pins : List (Addr × Obj)} {σ : L2.St} {H : Hp} {s : Shared}
mutual
theorem reads_at (I : L2.Inv X pins σ H s) : ∀ (d : Dt) (v : V) (u : Value), At X.K H v d → RelV v u → Fits d → ∃ as, Reads s.heap u d.py as
  | .non, v, u, h, r, _ => by
    unfold At at h
    subst h
    cases (show u = Value.none from r)
    simp only [Dt.py]
    exact ⟨_, .none⟩
  | .bl b, v, u, h, r, _ => by
    unfold At at h
    subst h
    cases (show u = Value.bool b from r)
    simp only [Dt.py]
    exact ⟨_, .bool b⟩
  | .int i, v, u, h, r, _ => by
    unfold At at h
    subst h
    obtain ⟨t, rfl⟩ := r
    simp only [Dt.py]
    exact ⟨_, .int i t⟩
  | .str w, v, u, h, r, _ => by
    unfold At at h
    obtain ⟨rfl, _⟩ := h
    obtain ⟨t, rfl⟩ := r
    simp only [Dt.py]
    exact ⟨_, .str _ t⟩
  | .lst ds, v, u, h, r, f => by
    unfold At at h
    unfold Fits at f
    obtain ⟨a, xs, rfl, h1, h2⟩ := h
    cases (show u = Value.ref a from r)
    obtain ⟨its, rv, ⟨o, n, e1, e2, _, e3⟩, _⟩ := I.list h1
    obtain ⟨as, k⟩ := reads_ats I ds xs its h2 rv f
    simp only [Dt.py]
    exact ⟨_, .list e1 e2 e3 (by rw [List.toList_toArray]; exact k)⟩
  | .tup ds, v, u, h, r, f => by
    unfold At at h
    unfold Fits at f
    obtain ⟨a, xs, rfl, h1, h2⟩ := h
    cases (show u = Value.ref a from r)
    obtain ⟨its, rv, ⟨o, e1, e2, n, e3⟩, _⟩ := I.tuple h1
    obtain ⟨as, k⟩ := reads_ats I ds xs its h2 rv f
    simp only [Dt.py]
    exact ⟨_, .tuple e1 e2 e3 (by rw [List.toList_toArray]; exact k)⟩
  | .dic, v, u, h, r, f => by unfold Fits at f; exact f.elim
theorem reads_ats (I : L2.Inv X pins σ H s) : ∀ (ds : List Dt) (vs : List V) (us : List Value), Ats X.K H vs ds → Vals vs us → FitsAll ds → ∃ as, ReadsAll s.heap us (pyAll ds) as
  | [], vs, us, h, r, _ => by
    unfold Ats at h
    subst h
    cases r
    simp only [pyAll]
    exact ⟨_, .nil⟩
  | d :: ds, vs, us, h, r, f => by
    unfold Ats at h
    unfold FitsAll at f
    obtain ⟨v, ws, rfl, h1, h2⟩ := h
    cases r with
    | cons r1 r2 =>
      obtain ⟨a1, k1⟩ := reads_at I d v _ h1 r1 f.1
      obtain ⟨a2, k2⟩ := reads_ats I ds ws _ h2 r2 f.2
      simp only [pyAll]
      exact ⟨_, .cons k1 k2⟩
end
end
/-- a thing's repr -/
def shw (d : Dt) : Str := d.py.shown
def Neat (d : Dt) : Prop := Fits d ∧ deep d ≤ 60 ∧ bulk d ≤ 300000
theorem neat_size {d : Dt} (h : Neat d) : (shw d).length ≤ sizeLine := by
  have h1 := PyData.shown_le_bulk 48 (by decide) d.py (fits_short d h.1)
  rw [bulk_py] at h1
  have h2 : (48 + 2) * bulk d ≤ 50 * 300000 := Nat.mul_le_mul (Nat.le_refl _) h.2.2
  have h3 : sizeLine = 16777216 := by decide
  unfold shw
  omega
def rRepr (K : PySem.W.Frag) : List V → Hp → VK → Prop := fun xs H Q => ∃ (p : Addr) (d : Dt), xs = [.ref p] ∧ At K H (.ref p) d ∧ Neat d ∧ Q (.str (shw d)) H
theorem call_reprG {X : Cx} (hg : X.A.guards = some []) (hu : X.A.units + 64 < cLine) : CallR X (.builtin "repr") (rRepr X.K) := by
  intro pins s σ H xs us Q I r h
  obtain ⟨p, d, rfl, hat, hn, q⟩ := h
  obtain ⟨u, rfl, rp⟩ := vals1 r
  cases (show u = Value.ref p from rp)
  obtain ⟨as, rd⟩ := reads_at I d _ _ hat rfl hn.1
  have hs := fits_show d hn.1
  refine repr_of_reads' rd hs.1 (fun z => absurd z (by rw [hs.2]; exact Bool.false_ne_true)) hg (by rw [depth_py]; have := hn.2.1; omega) (fun _ _ e => e) (fun h' t tk hk => ?_) (neat_size hn)
  exact ⟨.str (shw d), H, I.kept (t' := tk) (fun b o e => hk b o e), ⟨t, rfl⟩, q⟩
end BK

namespace BK
open PySem PySem.Spec PyProof.Rows L2

/-! ## things, lists and tuples not told apart -/
mutual
def norm : Dt → Dt
  | .lst ds => .lst (normAll ds)
  | .tup ds => .lst (normAll ds)
  | .non => .non
  | .bl b => .bl b
  | .int i => .int i
  | .str w => .str w
  | .dic => .dic
def normAll : List Dt → List Dt
  | [] => []
  | d :: ds => norm d :: normAll ds
end
theorem normAll_map : ∀ ds : List Dt, normAll ds = ds.map norm
  | [] => by simp only [normAll, List.map_nil]
  | d :: ds => by simp only [normAll, List.map_cons, normAll_map ds]
mutual
theorem norm_norm : ∀ d : Dt, norm (norm d) = norm d
  | .lst ds => by simp only [norm, normAll_normAll ds]
  | .tup ds => by simp only [norm, normAll_normAll ds]
  | .non => by simp only [norm]
  | .bl b => by simp only [norm]
  | .int i => by simp only [norm]
  | .str w => by simp only [norm]
  | .dic => by simp only [norm]
theorem normAll_normAll : ∀ ds : List Dt, normAll (normAll ds) = normAll ds
  | [] => by simp only [normAll]
  | d :: ds => by simp only [normAll, norm_norm d, normAll_normAll ds]
end
theorem row_norm (d : Dt) : isRow (norm d) = isRow d := by cases d <;> simp only [norm, isRow]
theorem items_norm (d : Dt) : (norm d).items = d.items.map norm := by cases d <;> simp only [norm, Dt.items, normAll_map, List.map_nil]
theorem whole_norm (d : Dt) (lo : Int) : isWhole (norm d) lo = isWhole d lo := by cases d <;> simp only [norm, isWhole]
theorem within_norm (d : Dt) (lo hi : Int) : isWithin (norm d) lo hi = isWithin d lo hi := by cases d <;> simp only [norm, isWithin]
theorem word_norm (d : Dt) : isWord (norm d) = isWord d := by cases d <;> simp only [norm, isWord]
theorem plain_norm (d : Dt) : isPlain (norm d) = isPlain d := by cases d <;> simp only [norm, isPlain]
theorem piece_norm (d : Dt) : isPiece (norm d) = isPiece d := by
  unfold isPiece
  rw [row_norm, items_norm]
  congr 1
  match d.items with
  | [] => rfl
  | [a] => rfl
  | [a, b] =>
    show (isWord (norm a) && isWhole (norm b) 1) = (isWord a && isWhole b 1)
    rw [word_norm, whole_norm]
  | a :: b :: c :: r => rfl
theorem pcOf_norm (d : Dt) : pcOf (norm d) = pcOf d := by
  unfold pcOf
  rw [items_norm]
  match d.items with
  | [] => rfl
  | [a] => cases a <;> simp only [norm, List.map_cons, List.map_nil]
  | [a, b] => cases a <;> cases b <;> simp only [norm, List.map_cons, List.map_nil]
  | a :: b :: c :: r => cases a <;> cases b <;> simp only [norm, List.map_cons]
theorem pieceSize_norm (d : Dt) : pieceSize (norm d) = pieceSize d := by
  unfold pieceSize
  rw [items_norm]
  match d.items with
  | [] => rfl
  | [a] => cases a <;> simp only [norm, List.map_cons, List.map_nil]
  | [a, b] => cases a <;> cases b <;> simp only [norm, List.map_cons, List.map_nil]
  | a :: b :: c :: r => cases a <;> cases b <;> simp only [norm, List.map_cons]
theorem isText_norm (d : Dt) : isText (norm d) = isText d := by
  unfold isText
  rw [row_norm, items_norm, List.length_map, List.all_map, List.map_map]
  have e1 : (isPiece ∘ norm) = isPiece := funext piece_norm
  have e2 : (pieceSize ∘ norm) = pieceSize := funext pieceSize_norm
  rw [e1, e2]
theorem pcs_norm (d : Dt) : pcs (norm d) = pcs d := by
  unfold pcs
  rw [items_norm, List.map_map, show (pcOf ∘ norm) = pcOf from funext pcOf_norm]
theorem isText_like {d e : Dt} (h : norm e = norm d) : isText e = isText d := by rw [← isText_norm, h, isText_norm]
theorem pcs_like {d e : Dt} (h : norm e = norm d) : pcs e = pcs d := by rw [← pcs_norm, h, pcs_norm]
mutual
theorem fits_norm : ∀ d : Dt, Fits (norm d) = Fits d
  | .lst ds => by simp only [norm, Fits, fitsAll_norm ds]
  | .tup ds => by simp only [norm, Fits, fitsAll_norm ds]
  | .non => by simp only [norm]
  | .bl b => by simp only [norm]
  | .int i => by simp only [norm]
  | .str w => by simp only [norm]
  | .dic => by simp only [norm]
theorem fitsAll_norm : ∀ ds : List Dt, FitsAll (normAll ds) = FitsAll ds
  | [] => by simp only [normAll]
  | d :: ds => by simp only [normAll, FitsAll, fits_norm d, fitsAll_norm ds]
end
mutual
theorem deep_norm : ∀ d : Dt, deep (norm d) = deep d
  | .lst ds => by simp only [norm, deep, deepAll_norm ds]
  | .tup ds => by simp only [norm, deep, deepAll_norm ds]
  | .non => by simp only [norm]
  | .bl b => by simp only [norm]
  | .int i => by simp only [norm]
  | .str w => by simp only [norm]
  | .dic => by simp only [norm]
theorem deepAll_norm : ∀ ds : List Dt, deepAll (normAll ds) = deepAll ds
  | [] => by simp only [normAll]
  | d :: ds => by simp only [normAll, deepAll, deep_norm d, deepAll_norm ds]
end
mutual
theorem bulk_norm : ∀ d : Dt, bulk (norm d) = bulk d
  | .lst ds => by simp only [norm, bulk, bulkAll_norm ds]
  | .tup ds => by simp only [norm, bulk, bulkAll_norm ds]
  | .non => by simp only [norm]
  | .bl b => by simp only [norm]
  | .int i => by simp only [norm]
  | .str w => by simp only [norm]
  | .dic => by simp only [norm]
theorem bulkAll_norm : ∀ ds : List Dt, bulkAll (normAll ds) = bulkAll ds
  | [] => by simp only [normAll]
  | d :: ds => by simp only [normAll, bulkAll, bulk_norm d, bulkAll_norm ds]
end
theorem neat_like {d e : Dt} (h : norm e = norm d) (n : Neat d) : Neat e := by
  refine ⟨?_, ?_, ?_⟩
  · rw [← fits_norm, h, fits_norm]
    exact n.1
  · rw [← deep_norm, h, deep_norm]
    exact n.2.1
  · rw [← bulk_norm, h, bulk_norm]
    exact n.2.2

/-! ## new lists all through: their rooms -/
mutual
def AtF (H : Hp) : V → Dt → List Addr → Prop
  | v, .lst ds, fp => ∃ a xs fs, v = .ref a ∧ H a = some (.lst xs) ∧ AtFs H xs ds fs ∧ fp = a :: fs
  | v, .non, fp => v = .non ∧ fp = []
  | v, .bl b, fp => v = .bl b ∧ fp = []
  | v, .int i, fp => v = .int i ∧ fp = []
  | v, .str w, fp => v = .str (tx w) ∧ w.length ≤ 1000000 ∧ fp = []
  | _, .tup _, _ => False
  | _, .dic, _ => False
def AtFs (H : Hp) : List V → List Dt → List Addr → Prop
  | vs, [], fp => vs = [] ∧ fp = []
  | vs, d :: ds, fp => ∃ v us f fs, vs = v :: us ∧ AtF H v d f ∧ AtFs H us ds fs ∧ fp = f ++ fs
end
mutual
theorem AtF.same {H H' : Hp} : ∀ (d : Dt) (v : V) (fp : List Addr), AtF H v d fp → (∀ b o, b ∈ fp → H b = some o → H' b = some o) → AtF H' v d fp
  | .lst ds, v, fp, h, e => by
    unfold AtF at h ⊢
    obtain ⟨a, xs, fs, rfl, h1, h2, rfl⟩ := h
    exact ⟨a, xs, fs, rfl, e _ _ (List.mem_cons_self ..) h1, AtFs.same ds xs fs h2 (fun b o hb => e b o (List.mem_cons_of_mem _ hb)), rfl⟩
  | .non, v, fp, h, e => by unfold AtF at h ⊢; exact h
  | .bl b, v, fp, h, e => by unfold AtF at h ⊢; exact h
  | .int i, v, fp, h, e => by unfold AtF at h ⊢; exact h
  | .str w, v, fp, h, e => by unfold AtF at h ⊢; exact h
  | .tup _, v, fp, h, e => by unfold AtF at h; exact h.elim
  | .dic, v, fp, h, e => by unfold AtF at h; exact h.elim
theorem AtFs.same {H H' : Hp} : ∀ (ds : List Dt) (vs : List V) (fp : List Addr), AtFs H vs ds fp → (∀ b o, b ∈ fp → H b = some o → H' b = some o) → AtFs H' vs ds fp
  | [], vs, fp, h, e => by unfold AtFs at h ⊢; exact h
  | d :: ds, vs, fp, h, e => by
    unfold AtFs at h ⊢
    obtain ⟨v, us, f, fs, rfl, h1, h2, rfl⟩ := h
    exact ⟨v, us, f, fs, rfl, AtF.same d v f h1 (fun b o hb => e b o (List.mem_append_left _ hb)), AtFs.same ds us fs h2 (fun b o hb => e b o (List.mem_append_right _ hb)), rfl⟩
end
mutual
theorem AtF.at {K : PySem.W.Frag} {H : Hp} : ∀ (d : Dt) (v : V) (fp : List Addr), AtF H v d fp → At K H v d
  | .lst ds, v, fp, h => by
    unfold AtF at h
    obtain ⟨a, xs, fs, rfl, h1, h2, rfl⟩ := h
    unfold At
    exact ⟨a, xs, rfl, SqL.of h1, AtFs.at ds xs fs h2⟩
  | .non, v, fp, h => by unfold AtF at h; unfold At; exact h.1
  | .bl b, v, fp, h => by unfold AtF at h; unfold At; exact h.1
  | .int i, v, fp, h => by unfold AtF at h; unfold At; exact h.1
  | .str w, v, fp, h => by unfold AtF at h; unfold At; exact ⟨h.1, h.2.1⟩
  | .tup _, v, fp, h => by unfold AtF at h; exact h.elim
  | .dic, v, fp, h => by unfold AtF at h; exact h.elim
theorem AtFs.at {K : PySem.W.Frag} {H : Hp} : ∀ (ds : List Dt) (vs : List V) (fp : List Addr), AtFs H vs ds fp → Ats K H vs ds
  | [], vs, fp, h => by unfold AtFs at h; unfold Ats; exact h.1
  | d :: ds, vs, fp, h => by
    unfold AtFs at h
    obtain ⟨v, us, f, fs, rfl, h1, h2, rfl⟩ := h
    unfold Ats
    exact ⟨v, us, rfl, AtF.at d v f h1, AtFs.at ds us fs h2⟩
end
theorem AtFs.snoc {H : Hp} {v : V} {d : Dt} {f : List Addr} (hv : AtF H v d f) : ∀ {ds : List Dt} {vs : List V} {fs : List Addr}, AtFs H vs ds fs → AtFs H (vs ++ [v]) (ds ++ [d]) (fs ++ f)
  | [], vs, fs, h => by
    unfold AtFs at h
    obtain ⟨rfl, rfl⟩ := h
    show AtFs H [v] [d] f
    unfold AtFs
    exact ⟨v, [], f, [], rfl, hv, by unfold AtFs; exact ⟨rfl, rfl⟩, (List.append_nil f).symm⟩
  | c :: ds, vs, fs, h => by
    unfold AtFs at h
    obtain ⟨u, us, g, gs, rfl, h1, h2, rfl⟩ := h
    show AtFs H (u :: (us ++ [v])) (c :: (ds ++ [d])) _
    unfold AtFs
    exact ⟨u, us ++ [v], g, gs ++ f, rfl, h1, AtFs.snoc hv h2, List.append_assoc ..⟩
theorem Ats.snoc {K : PySem.W.Frag} {H : Hp} {v : V} {d : Dt} (hv : At K H v d) : ∀ {ds : List Dt} {vs : List V}, Ats K H vs ds → Ats K H (vs ++ [v]) (ds ++ [d])
  | [], vs, h => by
    unfold Ats at h
    subst h
    show Ats K H [v] [d]
    unfold Ats
    exact ⟨v, [], rfl, hv, by unfold Ats; rfl⟩
  | c :: ds, vs, h => by
    unfold Ats at h
    obtain ⟨u, us, rfl, h1, h2⟩ := h
    show Ats K H (u :: (us ++ [v])) (c :: (ds ++ [d]))
    unfold Ats
    exact ⟨u, us ++ [v], rfl, h1, Ats.snoc hv h2⟩

/-! ## isinstance of handed things -/
theorem At.tyx {K : PySem.W.Frag} {H : Hp} {v : V} {d : Dt} (h : At K H v d) : TyX K H v (.type d.ty) := by
  cases d with
  | non => unfold At at h; subst h; exact .base .non
  | bl b => unfold At at h; subst h; exact .base (.bl b)
  | int i => unfold At at h; subst h; exact .base (.int i)
  | str w => unfold At at h; obtain ⟨rfl, _⟩ := h; exact .base (.str _)
  | lst ds =>
    unfold At at h
    obtain ⟨a, xs, rfl, h1, _⟩ := h
    rcases h1 with (h1 | ⟨o, h1⟩) | ⟨o, its, n, h1, h2, _⟩
    · exact .base (.lst h1)
    · exact .base (.frz h1)
    · exact .kList h1 h2
  | tup ds =>
    unfold At at h
    obtain ⟨a, xs, rfl, h1, _⟩ := h
    rcases h1 with (h1 | ⟨o, h1⟩) | ⟨o, its, n, h1, h2, _⟩
    · exact .base (.tup h1)
    · exact .fTuple h1
    · exact .kTuple h1 h2
  | dic => unfold At at h; obtain ⟨a, rfl, h1⟩ := h; exact .base (.dK h1)
theorem kit_known : ∀ y ∈ knownTy, ∀ n ∈ ["list", "tuple", "bool", "str", "int"], kitB y n = some (decide (y = n) || (decide (y = "bool") && decide (n = "int"))) := by decide +kernel
theorem isi_ty {K : PySem.W.Frag} {H : Hp} {v : V} {d : Dt} {n : String} {Q : VK} (h : At K H v d) (hn : n ∈ ["list", "tuple", "bool", "str", "int"]) (q : Q (.bl (decide (d.ty = n) || (decide (d.ty = "bool") && decide (n = "int")))) H) : rIsi K [v, .ty n] H Q :=
  ⟨v, .ty n, .type d.ty, .type n, _, rfl, .ty n, h.tyx, kit_ty (kit_known _ (ty_known d) n hn), q⟩
theorem isRow_ty (d : Dt) : isRow d = (decide (d.ty = "list") || decide (d.ty = "tuple")) := by cases d <;> simp [isRow, Dt.ty]
theorem isi_row {K : PySem.W.Frag} {H : Hp} {v : V} {d : Dt} {t : Addr} {Q : VK} (h : At K H v d) (ht : H t = some (.tup [.ty "list", .ty "tuple"])) (q : Q (.bl (isRow d)) H) : rIsiT K [v, .ref t] H Q := by
  refine ⟨v, t, _, .type d.ty, _, _, rfl, ht, .cons (.ty "list") (.cons (.ty "tuple") .nil), h.tyx, ?_, q⟩
  rw [isRow_ty]
  refine kitAny_cons (kit_ty (kit_known _ (ty_known d) "list" (by decide))) (fun e => ?_) (fun e => ?_)
  · have e1 : decide (d.ty = "list") = false := by
      cases h : decide (d.ty = "list") with
      | false => rfl
      | true => rw [h] at e; cases e
    rw [e1, Bool.false_or]
    refine kitAny_cons (kit_ty (kit_known _ (ty_known d) "tuple" (by decide))) (fun e2 => ?_) (fun e2 => ?_)
    · have e3 : decide (d.ty = "tuple") = false := by
        cases h : decide (d.ty = "tuple") with
        | false => rfl
        | true => rw [h] at e2; cases e2
      rw [e3]
      rfl
    · rw [show (decide ("tuple" = "int")) = false from by decide, Bool.and_false, Bool.or_false] at e2
      exact e2
  · rw [show (decide ("list" = "int")) = false from by decide, Bool.and_false, Bool.or_false] at e
    rw [e]
    rfl

/-! ## rooms apart -/
mutual
theorem AtF.trk {H : Hp} : ∀ (d : Dt) (v : V) (fp : List Addr), AtF H v d fp → ∀ b ∈ fp, ∃ o, H b = some o
  | .lst ds, v, fp, h => by
    unfold AtF at h
    obtain ⟨a, xs, fs, rfl, h1, h2, rfl⟩ := h
    intro b hb
    rcases List.mem_cons.mp hb with rfl | hb
    · exact ⟨_, h1⟩
    · exact AtFs.trk ds xs fs h2 b hb
  | .non, v, fp, h => by unfold AtF at h; obtain ⟨_, rfl⟩ := h; exact fun b hb => (List.not_mem_nil hb).elim
  | .bl b, v, fp, h => by unfold AtF at h; obtain ⟨_, rfl⟩ := h; exact fun b hb => (List.not_mem_nil hb).elim
  | .int i, v, fp, h => by unfold AtF at h; obtain ⟨_, rfl⟩ := h; exact fun b hb => (List.not_mem_nil hb).elim
  | .str w, v, fp, h => by unfold AtF at h; obtain ⟨_, _, rfl⟩ := h; exact fun b hb => (List.not_mem_nil hb).elim
  | .tup _, v, fp, h => by unfold AtF at h; exact h.elim
  | .dic, v, fp, h => by unfold AtF at h; exact h.elim
theorem AtFs.trk {H : Hp} : ∀ (ds : List Dt) (vs : List V) (fp : List Addr), AtFs H vs ds fp → ∀ b ∈ fp, ∃ o, H b = some o
  | [], vs, fp, h => by unfold AtFs at h; obtain ⟨_, rfl⟩ := h; exact fun b hb => (List.not_mem_nil hb).elim
  | d :: ds, vs, fp, h => by
    unfold AtFs at h
    obtain ⟨v, us, f, fs, rfl, h1, h2, rfl⟩ := h
    intro b hb
    rcases List.mem_append.mp hb with hb | hb
    · exact AtF.trk d v f h1 b hb
    · exact AtFs.trk ds us fs h2 b hb
end
/-- the heap without one thing -/
def hid (p : Addr) (H : Hp) : Hp := fun b => if b = p then none else H b
theorem hid_ne {p b : Addr} {H : Hp} (h : b ≠ p) : hid p H b = H b := if_neg h
theorem hid_at {p b : Addr} {H : Hp} {o : HO} (h : hid p H b = some o) : b ≠ p ∧ H b = some o := by
  by_cases e : b = p
  · rw [show hid p H b = none from if_pos e] at h
    cases h
  · exact ⟨e, (if_neg e).symm.trans h⟩
theorem hid_same (p : Addr) (H : Hp) : Same (hid p H) H := fun _ _ h => (hid_at h).2
theorem hid_mono {p : Addr} {H H' : Hp} (e : Same H H') : Same (hid p H) (hid p H') := fun b o h => by
  obtain ⟨h1, h2⟩ := hid_at h
  rw [hid_ne h1]
  exact e b o h2
theorem hid_upd {p t : Addr} {H : Hp} {o : HO} (h : t ≠ p) : hid p (upd H t o) = upd (hid p H) t o := by
  funext b
  by_cases e : b = p
  · subst e
    rw [upd_ne (fun z => h z.symm)]
    show (if b = b then none else _) = (if b = b then none else _)
    rw [if_pos rfl, if_pos rfl]
  · rw [hid_ne e]
    by_cases e2 : b = t
    · subst e2
      rw [upd_same, upd_same]
    · rw [upd_ne e2, upd_ne e2, hid_ne e]
theorem take_norm {ds : List Dt} {i : Nat} {d : Dt} (h : ds[i]? = some d) : (ds.map norm).take (i + 1) = (ds.map norm).take i ++ [norm d] := by
  rw [List.take_add_one, List.getElem?_map, h]
  rfl
theorem mem_deep {d e : Dt} (h : e ∈ d.items) : deep e + 1 ≤ deep d := by
  have key : ∀ ds : List Dt, e ∈ ds → deep e ≤ deepAll ds := by
    intro ds
    induction ds with
    | nil => intro h; cases h
    | cons c ds ih =>
      intro h
      simp only [deepAll]
      rcases List.mem_cons.mp h with rfl | h
      · omega
      · have := ih h
        omega
  cases d with
  | lst ds => have := key ds h; simp only [deep]; omega
  | tup ds => have := key ds h; simp only [deep]; omega
  | _ => cases h
theorem mem_bulk {d e : Dt} (h : e ∈ d.items) : bulk e + 1 ≤ bulk d := by
  have key : ∀ ds : List Dt, e ∈ ds → bulk e + 1 ≤ bulkAll ds := by
    intro ds
    induction ds with
    | nil => intro h; cases h
    | cons c ds ih =>
      intro h
      simp only [bulkAll]
      rcases List.mem_cons.mp h with rfl | h
      · omega
      · have := ih h
        omega
  cases d with
  | lst ds => have := key ds h; simp only [bulk]; omega
  | tup ds => have := key ds h; simp only [bulk]; omega
  | _ => cases h
theorem len_bulk (d : Dt) : d.items.length ≤ bulk d := by
  have key : ∀ ds : List Dt, ds.length ≤ bulkAll ds := by
    intro ds
    induction ds with
    | nil => exact Nat.zero_le _
    | cons c ds ih => simp only [bulkAll, List.length_cons]; omega
  cases d with
  | lst ds => exact key ds
  | tup ds => exact key ds
  | _ => exact Nat.zero_le _
theorem fitsAll_mem : ∀ {ds : List Dt}, FitsAll ds → ∀ {e}, e ∈ ds → Fits e
  | [], _, e, h => by cases h
  | d :: ds, f, e, h => by
    unfold FitsAll at f
    rcases List.mem_cons.mp h with rfl | h
    · exact f.1
    · exact fitsAll_mem f.2 h
theorem mem_fits {d e : Dt} (f : Fits d) (h : e ∈ d.items) : Fits e := by
  cases d with
  | lst ds => unfold Fits at f; exact fitsAll_mem f h
  | tup ds => unfold Fits at f; exact fitsAll_mem f h
  | _ => cases h
theorem leaf_AtF {K : PySem.W.Frag} {H : Hp} {v : V} {d : Dt} (h : At K H v d) (f : Fits d) (hr : isRow d = false) : AtF H v (norm d) [] := by
  cases d with
  | lst ds => cases hr
  | tup ds => cases hr
  | non => unfold At at h; simp only [norm]; unfold AtF; exact ⟨h, rfl⟩
  | bl b => unfold At at h; simp only [norm]; unfold AtF; exact ⟨h, rfl⟩
  | int i => unfold At at h; simp only [norm]; unfold AtF; exact ⟨h, rfl⟩
  | str w => unfold At at h; simp only [norm]; unfold AtF; exact ⟨h.1, h.2, rfl⟩
  | dic => unfold Fits at f; exact f.elim
/-- a comprehension over a row, whatever its items come to; the row stands in G, which stays -/
theorem lc_rowP {K : PySem.W.Frag} {a : Addr} {xs : List V} {tt : TT} {te : TE} {vs : List Nat} {σ : L2.St} {G H : Hp} {Q : VK} {j k : Nat} (hv : σ[j]? = some (some (.ref a))) (hr : Row K G a xs) (hG : Same G H)
    (hw : ∀ x, wipe ((wipe σ vs).set k (some x)) vs = wipe σ vs) (ht : ∀ σ H (R : Bool → Hp → Prop), R true H → tt σ H R)
    (Pv : Addr → Nat → List V → Hp → Prop) (h0 : ∀ D, H D = none → Pv D 0 [] (upd H D (.lst []))) (hk : ∀ D i ys H', Pv D i ys H' → Same G H')
    (hs : ∀ D (i : Nat) (x : V) (ys : List V) (H' : Hp), H D = none → xs[i]? = some x → Pv D i ys H' → te ((wipe σ vs).set k (some x)) H' fun y H4 => ∃ acc, H4 D = some (.lst acc) ∧ acc.length < sizeLine ∧ ∃ ys, Pv D (i + 1) ys (upd H4 D (.lst (acc ++ [y]))))
    (hd : ∀ D ys H', H D = none → Pv D xs.length ys H' → Q (.ref D) H') : tLc (iSeq K (tVar j)) (gName k) tt te vs σ H Q := by
  have st : ∀ D i x H', H D = none → xs[i]? = some x → (∃ ys, Pv D i ys H') → gName k x (wipe σ vs) H' fun σ2 H2 => wipe σ2 vs = wipe σ vs ∧ tt σ2 H2 fun b H3 =>
      if b = true then te σ2 H3 fun y H4 => ∃ acc, H4 D = some (.lst acc) ∧ acc.length < sizeLine ∧ (∃ ys, Pv D (i + 1) ys (upd H4 D (.lst (acc ++ [y])))) else (∃ ys, Pv D (i + 1) ys H3) := by
    intro D i x H' nD hx ⟨ys, hP⟩
    refine ⟨hw x, ht _ _ _ ?_⟩
    rw [if_pos rfl]
    exact hs D i x ys H' nD hx hP
  rcases hr with hr | hr
  · exact .inl ⟨_, hv, a, rfl, ⟨_, hG.seq hr⟩, fun D nD => L2.lc_list (K := K) (a := a) (xs := xs) (fun i H' => ∃ ys, Pv D i ys H') ⟨[], h0 D nD⟩ (fun i H' _ ⟨ys, p⟩ => (hk D i ys H' p).seq hr) (fun i x H' hx p => st D i x H' nD hx p) (fun H' ⟨ys, p⟩ => hd D ys H' nD p)⟩
  · exact .inr ⟨_, hv, a, rfl, ⟨_, sameT hG hr⟩, fun D nD => L2.lc_tup (K := K) (a := a) (xs := xs) (fun i H' => ∃ ys, Pv D i ys H') ⟨[], h0 D nD⟩ (fun i H' _ ⟨ys, p⟩ => sameT (hk D i ys H' p) hr) (fun i x H' hx p => st D i x H' nD hx p) (fun H' ⟨ys, p⟩ => hd D ys H' nD p)⟩
/-- the same with any target -/
theorem lc_rowX {K : PySem.W.Frag} {a : Addr} {xs : List V} {tg : TG} {tt : TT} {te : TE} {vs : List Nat} {σ : L2.St} {G H : Hp} {Q : VK} {j : Nat} (hv : σ[j]? = some (some (.ref a))) (hr : Row K G a xs) (hG : Same G H)
    (Pv : Addr → Nat → Hp → Prop) (h0 : ∀ D, H D = none → Pv D 0 (upd H D (.lst []))) (hk : ∀ D i H', Pv D i H' → Same G H')
    (hs : ∀ D (i : Nat) (x : V) (H' : Hp), H D = none → xs[i]? = some x → Pv D i H' → tg x (wipe σ vs) H' fun σ2 H2 => wipe σ2 vs = wipe σ vs ∧ tt σ2 H2 fun b H3 =>
      if b = true then te σ2 H3 fun y H4 => ∃ acc, H4 D = some (.lst acc) ∧ acc.length < sizeLine ∧ Pv D (i + 1) (upd H4 D (.lst (acc ++ [y]))) else Pv D (i + 1) H3)
    (hd : ∀ D H', H D = none → Pv D xs.length H' → Q (.ref D) H') : tLc (iSeq K (tVar j)) tg tt te vs σ H Q := by
  rcases hr with hr | hr
  · exact .inl ⟨_, hv, a, rfl, ⟨_, hG.seq hr⟩, fun D nD => L2.lc_list (K := K) (a := a) (xs := xs) (fun i H' => Pv D i H') (h0 D nD) (fun i H' _ p => (hk D i H' p).seq hr) (fun i x H' hx p => hs D i x H' nD hx p) (fun H' p => hd D H' nD p)⟩
  · exact .inr ⟨_, hv, a, rfl, ⟨_, sameT hG hr⟩, fun D nD => L2.lc_tup (K := K) (a := a) (xs := xs) (fun i H' => Pv D i H') (h0 D nD) (fun i H' _ p => sameT (hk D i H' p) hr) (fun i x H' hx p => hs D i x H' nD hx p) (fun H' p => hd D H' nD p)⟩
theorem hid_none {p b : Addr} {H : Hp} (h : H b = none) : hid p H b = none := by
  by_cases e : b = p
  · exact if_pos e
  · rw [hid_ne e]
    exact h
theorem hid_hid {D : Addr} {H : Hp} {o : HO} : hid D (upd H D o) = hid D H := by
  funext b
  by_cases e : b = D
  · subst e
    show (if b = b then none else _) = (if b = b then none else _)
    rw [if_pos rfl, if_pos rfl]
  · rw [hid_ne e, hid_ne e, upd_ne e]
end BK

namespace BK
open PySem PySem.Spec PyProof.Rows L2
/-! ## sorted(d), of a dict by whole numbers, any number of them -/
def rSortDK : List V → Hp → VK → Prop := fun xs H Q => ∃ (a : Addr) (kvs : List (Key × V)) (ks : List Int), xs = [.ref a] ∧ Rd H a (.dK kvs) ∧ kvs.map (·.1) = ks.map Sum.inl ∧ ∀ (ys : List Int) (p : Addr), ys.Perm ks → ys.Pairwise (· ≤ ·) → H p = none → Q (.ref p) (upd H p (.lst (ys.map V.int)))
theorem call_sortDK {X : Cx} (hc : X.calm = true) : CallR X (.builtin "sorted") rSortDK := by
  intro pins s σ H vs us Q J r h
  obtain ⟨a, kvs, ks, rfl, hrd, hk, q⟩ := h
  obtain ⟨u, rfl, ru⟩ := vals1 r
  cases ru
  obtain ⟨hz, hs, ws, kv, hd⟩ := dk_rd J.hok hrd
  obtain ⟨ep, da⟩ := hd.dictAt
  have kk : ws.map (·.1) = ks.map Sum.inl := (KV.keys kv).symm.trans hk
  have hlen : ws.length = ks.length := by have := congrArg List.length kk; rw [List.length_map, List.length_map] at this; exact this
  have hz' : ks.length ≤ sizeLine := by
    have := congrArg List.length hk
    rw [List.length_map, List.length_map] at this
    omega
  refine Calls.call_function_entry kind_sorted plain_sorted entry_sorted (args_sorted1 _) ?_
  unfold Builtin.sorted
  refine wpAny_bind (wpAny_pure (wpAny_bind ?_))
  refine W.kdu_collect (W.kdl_dict hs) (J.ok.hd hc) da (by omega) fun h' tk acc keep it => ?_
  have ia : IntsAre acc.toList ks := by
    refine ints_each (by rw [Array.length_toList, it.1, hlen]) fun j v hv => ?_
    obtain ⟨k, x, h1, h2⟩ := it.2 j v (by rw [← Array.getElem?_toList]; exact hv)
    have h3 : (ws.map (·.1))[j]? = some k := by rw [List.getElem?_map, h1]; rfl
    rw [kk, List.getElem?_map] at h3
    cases e : ks[j]? with
    | none => rw [e] at h3; cases h3
    | some i =>
      rw [e] at h3
      have h4 : Sum.inl i = k := Option.some.inj h3
      subst h4
      rcases keyIs_shape (show L2.keyIs (Sum.inl i) v = true from h2) with ⟨i', t, e1, e2⟩ | ⟨x', t, e1, _⟩
      · cases e1
        exact ⟨i, t, rfl, e2⟩
      · cases e1
  have zl : acc.toList.length ≤ sizeLine := by rw [Array.length_toList, it.1]; omega
  refine wpAny_bind (wpAny_newList ?_ zl)
  refine wpAny_bind (wpAny_holding ?_)
  have hp : (h'.push { cls := .type "list", data := .seq acc.toList.toArray }).get? h'.objs.size = some (seqObj "list" acc.toList.toArray 0) := Heap.get?_push_size _ rfl
  refine wpAny_call_entry slot_list_sort ⟨_, hp, rfl⟩ entry_list_sort ?_ (args_list_sort _)
  refine SrtO.list_sort_ord SrtO.swo_int hp zl (fun h2 => SrtO.ints_sortable ia h2) fun out hs1 hs2 => ?_
  obtain ⟨i1, i2, i3⟩ := SrtO.ints_out ia hs1 hs2
  refine ⟨_, rfl, wpAny_pure ⟨_, rfl, ?_⟩⟩
  have J2 : L2.Inv X pins σ H { heap := h', gens := s.gens, drawn := s.drawn, toks := tk, os := s.os } := J.kept keep
  obtain ⟨e, he⟩ := sortedHeap_at (out := out.toArray) hp
  have rv := vals_of_ints i1
  generalize List.map SrtO.iv out = ns at i2 i3 rv
  have hl : (ns.map V.int).length ≤ sizeLine := by rw [List.length_map, i2.length_eq]; exact hz'
  refine ⟨.ref _, upd H h'.objs.size (.lst (ns.map V.int)), J2.laid (t' := tk) (fun b u hb => ?_) (Nat.le_refl _) ⟨hl, out, e, rv, he⟩, rfl, q _ _ i2 i3 (J2.hok.fresh (Nat.le_refl _))⟩
  have lt : b < h'.objs.size := Heap.lt_size hb
  rw [sortedHeap_old (Nat.ne_of_lt lt) (by rw [size_push']; exact Nat.lt_succ_of_lt lt)]
  exact Heap.get?_push_of_some _ hb
end BK

namespace BK
open PySem PySem.Spec PyProof.Rows L2
def topS (i : Nat) : Stmt := PySem.Challenge.pw_blindkeys_k40_longest_rounds.main.body.getD i (.Pass ⟨0, 0, 0, 0⟩)
abbrev s_is_whole : Stmt := topS 4
abbrev N_is_whole : List Str := ["thing", "low"]
theorem sc_is_whole : FnScope N_is_whole ["thing", "low"] (defScope s_is_whole) := ⟨rfl, rfl, rfl, by decide +kernel, rfl, by decide +kernel, by decide +kernel⟩
abbrev s_is_within : Stmt := topS 5
abbrev N_is_within : List Str := ["thing", "low", "high"]
theorem sc_is_within : FnScope N_is_within ["thing", "low", "high"] (defScope s_is_within) := ⟨rfl, rfl, rfl, by decide +kernel, rfl, by decide +kernel, by decide +kernel⟩
abbrev s_is_prime : Stmt := topS 8
abbrev N_is_prime : List Str := ["number", "low"]
theorem sc_is_prime : FnScope N_is_prime ["number"] (defScope s_is_prime) := ⟨rfl, rfl, rfl, by decide +kernel, rfl, by decide +kernel, by decide +kernel⟩
abbrev s_best_with : Stmt := topS 9
abbrev N_best_with : List Str := ["best", "prime", "many", "told", "power"]
theorem sc_best_with : FnScope N_best_with ["best", "prime", "many"] (defScope s_best_with) := ⟨rfl, rfl, rfl, by decide +kernel, rfl, by decide +kernel, by decide +kernel⟩
abbrev s_longest_round : Stmt := topS 10
abbrev N_longest_round : List Str := ["kept", "best", "prime", "many"]
theorem sc_longest_round : FnScope N_longest_round ["kept"] (defScope s_longest_round) := ⟨rfl, rfl, rfl, by decide +kernel, rfl, by decide +kernel, by decide +kernel⟩
abbrev s__law_spring : Stmt := topS 12
abbrev N__law_spring : List Str := ["script", "figures", "stir", "cell"]
theorem sc__law_spring : FnScope N__law_spring ["script"] (defScope s__law_spring) := ⟨rfl, rfl, rfl, by decide +kernel, rfl, by decide +kernel, by decide +kernel⟩
abbrev s__law_draw : Stmt := topS 13
abbrev N__law_draw : List Str := ["spring", "many", "found", "stir"]
theorem sc__law_draw : FnScope N__law_draw ["spring", "many"] (defScope s__law_draw) := ⟨rfl, rfl, rfl, by decide +kernel, rfl, by decide +kernel, by decide +kernel⟩
abbrev s__law_same : Stmt := topS 14
abbrev N__law_same : List Str := ["found", "due", "k"]
theorem sc__law_same : FnScope N__law_same ["found", "due"] (defScope s__law_same) := ⟨rfl, rfl, rfl, by decide +kernel, rfl, by decide +kernel, by decide +kernel⟩
abbrev s__law_common : Stmt := topS 15
abbrev N__law_common : List Str := ["one", "other", "times"]
theorem sc__law_common : FnScope N__law_common ["one", "other"] (defScope s__law_common) := ⟨rfl, rfl, rfl, by decide +kernel, rfl, by decide +kernel, by decide +kernel⟩
abbrev s__law_all : Stmt := topS 16
abbrev N__law_all : List Str := ["most", "found", "kept", "rows", "last", "one"]
theorem sc__law_all : FnScope N__law_all ["most"] (defScope s__law_all) := ⟨rfl, rfl, rfl, by decide +kernel, rfl, by decide +kernel, by decide +kernel⟩
abbrev s__law_best : Stmt := topS 17
abbrev N__law_best : List Str := ["most", "best", "prime", "more", "size", "power"]
theorem sc__law_best : FnScope N__law_best ["most"] (defScope s__law_best) := ⟨rfl, rfl, rfl, by decide +kernel, rfl, by decide +kernel, by decide +kernel⟩
abbrev s_law : Stmt := topS 18
abbrev N_law : List Str := ["script", "due", "kept", "best", "dues", "spring", "rounds"]
theorem sc_law : FnScope N_law ["script"] (defScope s_law) := ⟨rfl, rfl, rfl, by decide +kernel, rfl, by decide +kernel, by decide +kernel⟩
structure FnT (K : PySem.W.Frag) (mg : Str → Option Value) (x : Str) (st : Stmt) (ps : List Str) : Type where
  f : Addr
  fd : FuncData
  F : Fun K x x st f fd
  g : mg x = some (.ref f)
  b : Binds K fd ps []
structure Txt (K : PySem.W.Frag) (mg : Str → Option Value) : Type where
  f_is_whole : FnT K mg "is_whole" s_is_whole ["thing", "low"]
  f_is_within : FnT K mg "is_within" s_is_within ["thing", "low", "high"]
  f_is_prime : FnT K mg "is_prime" s_is_prime ["number"]
  f_best_with : FnT K mg "best_with" s_best_with ["best", "prime", "many"]
  f_longest_round : FnT K mg "longest_round" s_longest_round ["kept"]
  f__law_spring : FnT K mg "_law_spring" s__law_spring ["script"]
  f__law_draw : FnT K mg "_law_draw" s__law_draw ["spring", "many"]
  f__law_same : FnT K mg "_law_same" s__law_same ["found", "due"]
  f__law_common : FnT K mg "_law_common" s__law_common ["one", "other"]
  f__law_all : FnT K mg "_law_all" s__law_all ["most"]
  f__law_best : FnT K mg "_law_best" s__law_best ["most"]
  f_law : FnT K mg "law" s_law ["script"]
  b_abs : mg "abs" = none
  b_all : mg "all" = none
  b_bool : mg "bool" = none
  b_dict : mg "dict" = none
  b_int : mg "int" = none
  b_isinstance : mg "isinstance" = none
  b_len : mg "len" = none
  b_list : mg "list" = none
  b_max : mg "max" = none
  b_range : mg "range" = none
  b_sorted : mg "sorted" = none
  b_str : mg "str" = none
  b_tuple : mg "tuple" = none
  b_type : mg "type" = none
  c_MOST_KEPT : ∃ t, mg "MOST_KEPT" = some (.int 60 t)
theorem pe_c_MOST_KEPT {X : Cx} {pos : Pos} (T : Txt X.K X.mg) (hg : Gl X "MOST_KEPT" := by rfl) : PE X (.Name "MOST_KEPT" pos) (tC (.int 60)) := by
  obtain ⟨t, e⟩ := T.c_MOST_KEPT
  exact pe_glob hg e ⟨_, rfl⟩
local macro_rules | `(tactic| walk_at "rd") => `(tactic| try dsimp only [tSeq, tNext, tRet, tRetN, tDrop, tIfS, tAsg, tPar, tAug, tVar, tC, tOp, tUn, tCB, tCons, tNil, tTup, tLst, tCall, tTest, tB, tNot, tAnd, tOr, tAndV, tOrV, tNotV, tIf, tIsN, tNotN, tSl, tPart, tNoPart, tM1, tM0, tBM, tBM0, tChain, gName, gTup, gUnl, gCons, gNil, List.nil_append, List.append_nil, List.cons_append])
section
variable {P : Program} {w : World} {K : PySem.W.Frag} {mg : Str → Option Value} {base : Heap}
/-! ## kinds -/
def spIsRow (K : PySem.W.Frag) : Sp := fun vs H Q _ => ∃ v d, vs = [v] ∧ At K H v d ∧ ∀ H', Same H H' → Q (.bl (isRow d)) H'
def spIsWhole (K : PySem.W.Frag) : Sp := fun vs H Q _ => ∃ v d lo, vs = [v, .int lo] ∧ At K H v d ∧ Q (.bl (isWhole d lo)) H
theorem ok_is_whole (T : Txt K mg) : FnOk P w K mg base CX0 1 T.f_is_whole.f T.f_is_whole.fd ["thing", "low"] (spIsWhole K) := by
  refine T.f_is_whole.F.ok sc_is_whole (fun vs H Q E h => ?_) (fun cdv A outer s H vs Q E hr h => ?_)
  · obtain ⟨v, d, lo, rfl, _⟩ := h
    rfl
  obtain ⟨v, d, lo, rfl, hv, q⟩ := h
  refine ⟨_, (pss_one (ps_ret (pe_and (pe_cmpR op_isTyB (pe_callTy call_type1 (by rfl) T.b_type (by decide +kernel) (pa_cons (pv 0) pa_nil)) (pe_bltn (v := .ty "int") (by rfl) T.b_int (by decide +kernel) rfl) (nomark _)) (pe_one (pe_cmpR op_ge (pv 0) (pv 1) (nomark _)))))), ?_⟩
  walk_at "rd"
  refine ⟨v, rfl, v, d.ty, rfl, hv.ty, d.ty, "int", rfl, rfl, _, rfl, ite2 (fun e => ?_) (fun e => ?_)⟩
  · have e2 := of_decide_eq_true e
    cases d with
    | int i =>
      unfold At at hv
      subst hv
      exact ⟨_, rfl, _, rfl, i, lo, rfl, rfl, q⟩
    | _ => exact absurd e2 (by simp [Dt.ty])
  · have e2 : isWhole d lo = false := by
      cases d with
      | int i => exact absurd (decide_eq_true rfl) e
      | _ => rfl
    rw [e2] at q
    exact q

def spIsPlain (K : PySem.W.Frag) : Sp := fun vs H Q _ => ∃ v d, vs = [v] ∧ At K H v d ∧ Q (.bl (isPlain d)) H
def spIsWithin (K : PySem.W.Frag) : Sp := fun vs H Q _ => ∃ v d lo hi, vs = [v, .int lo, .int hi] ∧ At K H v d ∧ Q (.bl (isWithin d lo hi)) H
theorem ok_is_within (T : Txt K mg) : FnOk P w K mg base CX0 2 T.f_is_within.f T.f_is_within.fd ["thing", "low", "high"] (spIsWithin K) := by
  refine T.f_is_within.F.ok sc_is_within (fun vs H Q E h => ?_) (fun cdv A outer s H vs Q E hr h => ?_)
  · obtain ⟨v, d, lo, hi, rfl, _⟩ := h
    rfl
  obtain ⟨v, d, lo, hi, rfl, hv, q⟩ := h
  refine ⟨_, (pss_one (ps_ret (pe_and (pe_call (ok_is_whole T) (hr.mono (by first | decide | omega)) (by rfl) T.f_is_whole.g T.f_is_whole.F.kp T.f_is_whole.b .nil pass0 (pa_cons (pv 0) (pa_cons (pv 1) pa_nil))) (pe_one (pe_cmpR op_le (pv 0) (pv 2) (nomark _)))))), ?_⟩
  walk_at "rd"
  refine ⟨v, rfl, .int lo, rfl, v, d, lo, rfl, hv, _, rfl, ite2 (fun e => ?_) (fun e => ?_)⟩
  · cases d with
    | int i =>
      unfold At at hv
      subst hv
      rw [show isWithin (.int i) lo hi = (isWhole (.int i) lo && decide (i ≤ hi)) from rfl, e, Bool.true_and] at q
      exact ⟨_, rfl, _, rfl, i, hi, rfl, rfl, q⟩
    | _ => exact absurd e (by simp [isWhole])
  · have e2 : isWithin d lo hi = false := by
      cases d with
      | int i =>
        rw [show isWithin (.int i) lo hi = (isWhole (.int i) lo && decide (i ≤ hi)) from rfl, Bool.eq_false_iff.mpr e, Bool.false_and]
      | _ => rfl
    rw [e2] at q
    exact q

def spStr (f : Dt → Bool) (K : PySem.W.Frag) : Sp := fun vs H Q _ => ∃ v d, vs = [v] ∧ At K H v d ∧ Q (.bl (f d)) H
theorem plain_str {d : Dt} (h : isPlain d = true) : ∃ x, d = .str x ∧ x.all (alpha.contains ·) = true := by
  cases d with
  | str x => exact ⟨x, rfl, h⟩
  | _ => cases h
/-! ## pieces -/
def spIsPiece (f : Dt → Bool) (K : PySem.W.Frag) : Sp := fun vs H Q _ => ∃ v d, vs = [v] ∧ At K H v d ∧ ∀ H', Same H H' → Q (.bl (f d)) H'
def spCheckText (K : PySem.W.Frag) : Sp := fun vs H Q _ => ∃ v d, vs = [v] ∧ At K H v d ∧ isText d = true ∧ ∀ H', Same H H' → Q .non H'
def spCheckLetter (K : PySem.W.Frag) : Sp := fun vs H Q _ => ∃ c, vs = [.str (tx [c])] ∧ alpha.contains c = true ∧ Q .non H

/-! ## numbers, the pure side -/
def prm (n : Nat) : Bool := (List.range (n - 2)).all fun i => n % (i + 2) != 0
def bwl (best : List Nat) (prime many : Nat) : Nat → Nat → Nat → Nat
  | 0, _, told => told
  | f + 1, power, told => if power ≤ many then bwl best prime many f (power * prime) (max told (best.getD (many - power) 0 * power)) else told
def bw (best : List Nat) (prime many : Nat) : Nat := bwl best prime many 61 prime (best.getD many 0)
def lgs (kept : Nat) (best : List Nat) (prime : Nat) : List Nat := if prm prime = true then (List.range (kept + 1)).map (bw best prime) else best
def lgAt (kept i : Nat) : List Nat := (List.range i).foldl (fun b j => lgs kept b (j + 2)) (List.replicate (kept + 1) 1)
def lgr (kept : Nat) : Nat := (lgAt kept (kept - 1)).getD kept 0
def com (one other : Nat) : Nat → Nat → Nat
  | 0, t => one * t
  | f + 1, t => if 0 < (one * t) % other then com one other f (t + 1) else one * t
def cmn (one other : Nat) : Nat := com one other other 1
def addK (ks : List Nat) (k : Nat) : List Nat := if ks.any (fun j => decide (j = k)) = true then ks else ks ++ [k]
def ins (k : Nat) : List Nat → List Nat
  | [] => [k]
  | x :: xs => if k ≤ x then k :: x :: xs else x :: ins k xs
def isort : List Nat → List Nat
  | [] => []
  | x :: xs => ins x (isort xs)
def rowL (rows : List Nat) (last : Nat) (ones : List Nat) : List Nat := ones.foldl (fun r one => addK r (cmn one last)) rows
def rowK (found : List (List Nat)) (kept m : Nat) : List Nat := (List.range m).foldl (fun r l => rowL r (l + 1) (found.getD (kept - (l + 1)) [])) []
def allR : Nat → List (List Nat)
  | 0 => [[1]]
  | n + 1 => allR n ++ [isort (rowK (allR n) (n + 1) (n + 1))]
def getP (ps : List (Nat × Nat)) (k : Nat) : Option Nat := (ps.find? fun p => decide (p.1 = k)).map (·.2)
def putP (ps : List (Nat × Nat)) (k v : Nat) : List (Nat × Nat) := if ps.any (fun p => decide (p.1 = k)) = true then ps.map (fun p => if p.1 = k then (p.1, v) else p) else ps ++ [(k, v)]
def bsw (most size v prime : Nat) : Nat → Nat → List (Nat × Nat) → List (Nat × Nat)
  | 0, _, more => more
  | f + 1, power, more => if size + power ≤ most then bsw most size v prime f (power * prime) (putP more (size + power) (max ((getP more (size + power)).getD 0) (v * power))) else more
def bss (most : Nat) (best : List (Nat × Nat)) (prime i : Nat) : List (Nat × Nat) := ((best.map (·.1)).take i).foldl (fun more size => bsw most size ((getP best size).getD 0) prime 61 prime more) best
def primes : List Nat := [2, 3, 5, 7, 11, 13, 17, 19, 23, 29, 31, 37, 41, 43, 47, 53, 59]
def bsAt (i : Nat) : List (Nat × Nat) := (primes.take i).foldl (fun b p => bss 60 b p b.length) [(0, 1)]
def dueL (ps : List (Nat × Nat)) (i : Nat) : List Nat := (List.range i).foldl (fun d k => d ++ [max (d.getLastD 0) ((getP ps (k + 1)).getD 1)]) [1]
theorem allR_eq : (allR 20).map (·.getLastD 0) = (List.range 21).map lgr := by decide +kernel
theorem lgr_eq : dueL (bsAt 17) 60 = (List.range 61).map lgr := by decide +kernel
theorem due30 : (dueL (bsAt 17) 60).getD 30 0 = 4620 := by decide +kernel
theorem len1 : ∀ l ∈ allR 20, l.length ≤ 100 := by decide +kernel
theorem len2 : ∀ i ≤ 17, (bsAt i).length ≤ 61 := by decide +kernel

/-! ## the program's own -/
def spPrime : Sp := fun vs H Q _ => ∃ n : Nat, vs = [.int n] ∧ 2 ≤ n ∧ n ≤ 60 ∧ ∀ H', Same H H' → Q (.bl (prm n)) H'
theorem ok_is_prime (T : Txt K mg) : FnOk P w K mg base CX0 1 T.f_is_prime.f T.f_is_prime.fd ["number"] spPrime := by
  refine T.f_is_prime.F.ok sc_is_prime (fun vs H Q E h => ?_) (fun cdv A outer s H vs Q E hr h => ?_)
  · obtain ⟨n, rfl, _⟩ := h
    rfl
  obtain ⟨n, rfl, h2, h60, q⟩ := h
  refine ⟨_, (pss_one (ps_ret (pe_callB (cr_all rfl) (by rfl) T.b_all (by decide +kernel) (pa_cons (pe_lc (own := [("low", 1)]) rfl sc_is_prime.nd (pi_range2 (by rfl) T.b_range (pa_cons pe_int (pa_cons (pv 0) pa_nil))) (blkOk_by (own := [("low", 1)]) (N := N_is_prime) (sc := defScope s_is_prime) (by decide +kernel)) (fun _ _ _ _ _ => (pg_name (i := 1) sc_is_prime.nd rfl (.inl rfl))) (fun _ _ _ _ _ => pts_nil) (fun _ _ _ _ _ => (pe_cmpR op_ne (pe_op op_mod (pv 0) (pv 1)) pe_int (nomark _)))) pa_nil)))), ?_⟩
  walk_at "rd"
  refine lc_rng2 ?_
  walk_at "rd"
  refine ⟨_, rfl, _, _, rfl, (by omega), fun D nD => ?_⟩
  have e : ((n : Int) - 2).toNat = n - 2 := by omega
  rw [e]
  refine LcGo.range (fun i H' => Same H H' ∧ H' D = some (.lst (((List.range i).map fun i => n % (i + 2) != 0).map V.bl))) ⟨same_upd nD, upd_same⟩ ?_ ?_
  · rintro i H' hi ⟨s1, hD⟩
    walk_at "rd"
    refine ⟨rfl, _, rfl, _, rfl, _, _, rfl, rfl, (show (0 : Int) < 2 + (i : Nat) by omega), rfl, ?_⟩
    refine ⟨_, hD, ?_, same_mut s1 nD, ?_⟩
    · rw [List.length_map, List.length_map, List.length_range]
      exact Nat.lt_of_lt_of_le (show i < 60 by omega) (by decide)
    · rw [upd_same, List.range_succ, List.map_append, List.map_append]
      have e2 : (!decide (V.int ((n : Int) % (2 + (i : Nat))) = V.int 0)) = (n % (i + 2) != 0) := by
        have e3 : ((n : Int) % (2 + (i : Nat))) = ((n % (i + 2) : Nat) : Int) := by
          rw [show (2 : Int) + (i : Nat) = ((i + 2 : Nat) : Int) by omega, ← Int.natCast_emod]
        rw [e3]
        by_cases hz : n % (i + 2) = 0
        · rw [hz]; rfl
        · rw [decide_eq_false (fun h => hz (by have := V.int.inj h; omega))]
          exact (bne_iff_ne.mpr hz).symm
      rw [e2]
      rfl
  · rintro H' ⟨s1, hD⟩
    exact ⟨D, _, rfl, SqL.of hD, by rw [List.all_map]; exact q _ s1⟩

def BestOk (bs : List Nat) : Prop := ∀ j b, bs[j]? = some b → b ≤ 2 ^ j
def natV (n : Nat) : V := V.int (n : Int)
def spBest (K : PySem.W.Frag) : Sp := fun vs H Q _ => ∃ (a : Addr) (bs : List Nat) (p m : Nat), vs = [.ref a, .int p, .int m] ∧ SqL K H a (bs.map natV) ∧ m < bs.length ∧ bs.length ≤ 61 ∧ 2 ≤ p ∧ p ≤ 60 ∧ BestOk bs ∧ Q (natV (bw bs p m)) H
theorem at_nat {bs : List Nat} {z : Int} {j : Nat} (e : z = (j : Int)) (h : j < bs.length) : atI (bs.map natV) z = some (natV (bs.getD j 0)) := at_ofA e (by rw [List.getElem?_map, List.getD_eq_getElem?_getD, List.getElem?_eq_getElem h]; rfl)
theorem max_nat {i j : Nat} : V.int (if (j : Int) > (i : Int) then (j : Int) else (i : Int)) = natV (max i j) := by
  unfold natV
  congr 1
  split <;> omega
theorem BestOk.getD {bs : List Nat} (h : BestOk bs) {j : Nat} (hj : j < bs.length) : bs.getD j 0 ≤ 2 ^ j := h j _ (by rw [List.getD_eq_getElem?_getD, List.getElem?_eq_getElem hj]; rfl)
theorem ok_best_with (T : Txt K mg) : FnOk P w K mg base CX0 1 T.f_best_with.f T.f_best_with.fd ["best", "prime", "many"] (spBest K) := by
  refine T.f_best_with.F.ok sc_best_with (fun vs H Q E h => ?_) (fun cdv A outer s H vs Q E hr h => ?_)
  · obtain ⟨a, bs, p, m, rfl, _⟩ := h
    rfl
  obtain ⟨a, bs, p, m, rfl, ha, hm, h61, h2, h60, bo, q⟩ := h
  refine ⟨_, (pss_cons (ps_set (i := 3) sc_best_with.nd rfl (.inl rfl) (pe_ix ix_seq (pv 0) (pv 2) (fun _ _ => rfl)))
      (pss_cons (ps_set (i := 4) sc_best_with.nd rfl (.inl rfl) (pv 1))
      (pss_cons (ps_while PassesOwn.never (pt_cmpR op_le (pv 4) (pv 2) (nomark _)) (pss_cons (ps_set (i := 3) sc_best_with.nd rfl (.inl rfl) (pe_callB (call_max2 rfl) (by rfl) T.b_max (by decide +kernel) (pa_cons (pv 3) (pa_cons (pe_op op_mul (pe_ix ix_seq (pv 0) (pe_op op_sub (pv 2) (pv 4)) (fun _ _ => rfl)) (pv 4)) pa_nil))))
      (pss_one (ps_set (i := 4) sc_best_with.nd rfl (.inl rfl) (pe_op op_mul (pv 4) (pv 1))))))
      (pss_one (ps_ret (pv 3)))))), ?_⟩
  walk_at "rd"
  refine ⟨_, rfl, _, rfl, ix_row (.inl ha) (at_nat rfl hm) ⟨_, rfl, ?_⟩⟩
  refine ⟨fun f σ H' => ∃ pw td : Nat, σ = [some (.ref a), some (.int p), some (.int m), some (natV td), some (natV pw)] ∧ H' = H ∧ 2 ^ (61 - f) ≤ pw ∧ f ≤ 61 ∧ 2 ≤ pw ∧ bwl bs p m f pw td = bw bs p m, ⟨61, p, _, rfl, rfl, (by show 1 ≤ p; omega), Nat.le_refl _, h2, rfl⟩, ?_⟩
  rintro f σ H' ⟨pw, td, rfl, rfl, hp, hf, hp2, hb⟩
  refine ⟨_, rfl, _, rfl, _, _, rfl, rfl, _, rfl, ite2 (fun e => ?_) (fun e => ?_)⟩
  · have hc : pw ≤ m := by have := of_decide_eq_true e; omega
    cases f with
    | zero => exact absurd hp (by have : (2 : Nat) ^ (61 - 0) > 61 := by decide
                                  omega)
    | succ f =>
      have hx := BestOk.getD bo (show m - pw < bs.length by omega)
      have h62 : (2 : Nat) ^ (m - pw) ≤ 2 ^ 60 := Nat.pow_le_pow_right (by decide) (by omega)
      refine ⟨_, fun σ' H' h => ⟨f, Nat.lt_succ_self f, h⟩, ?_⟩
      refine ⟨_, rfl, _, rfl, _, rfl, _, rfl, _, _, rfl, rfl, ix_row (.inl ha) (at_nat (j := m - pw) (by omega) (by omega)) ⟨_, rfl, _, _, rfl, rfl, .inl (by omega), _, _, rfl, ?_⟩⟩
      refine ⟨_, rfl, _, rfl, _, _, rfl, rfl, .inr (by omega), ?_⟩
      refine ⟨pw * p, max td (bs.getD (m - pw) 0 * pw), ?_, rfl, ?_, by omega, ?_, ?_⟩
      · rw [← Int.natCast_mul, max_nat]
        have e3 : V.int ((pw : Int) * (p : Int)) = natV (pw * p) := by unfold natV; rw [Int.natCast_mul]
        show [_, _, _, _, some (V.int ((pw : Int) * (p : Int)))] = _
        rw [e3]
      · calc 2 ^ (61 - f) = 2 ^ (61 - (f + 1)) * 2 := by rw [← Nat.pow_succ]; congr 1; omega
          _ ≤ pw * p := Nat.mul_le_mul hp h2
      · calc 2 = 1 * 2 := rfl
          _ ≤ pw * p := Nat.mul_le_mul (by omega) h2
      · rw [← hb]
        conv => rhs; unfold bwl
        rw [if_pos hc]
  · have hc : ¬ pw ≤ m := fun h => e (decide_eq_true (by omega))
    refine ⟨_, rfl, ?_⟩
    have e1 : td = bw bs p m := by
      rw [← hb]
      cases f with
      | zero => rfl
      | succ f => unfold bwl; rw [if_neg hc]
    rw [e1]
    exact q

theorem bwl_le {bs : List Nat} (bo : BestOk bs) {p m : Nat} (hm : m < bs.length) : ∀ f pw td : Nat, td ≤ 2 ^ m → bwl bs p m f pw td ≤ 2 ^ m
  | 0, _, td, h => h
  | f + 1, pw, td, h => by
    unfold bwl
    split
    · rename_i hp
      refine bwl_le bo hm f _ _ (Nat.max_le.mpr ⟨h, ?_⟩)
      calc bs.getD (m - pw) 0 * pw ≤ 2 ^ (m - pw) * 2 ^ pw := Nat.mul_le_mul (bo.getD (by omega)) (Nat.le_of_lt (Nat.lt_two_pow_self))
        _ = 2 ^ m := by rw [← Nat.pow_add]; congr 1; omega
    · exact h
theorem bw_le {bs : List Nat} (bo : BestOk bs) {p m : Nat} (hm : m < bs.length) : bw bs p m ≤ 2 ^ m := bwl_le bo hm _ _ _ (bo.getD hm)
theorem lgs_len {k p : Nat} {bs : List Nat} (h : bs.length = k + 1) : (lgs k bs p).length = k + 1 := by
  unfold lgs
  split
  · rw [List.length_map, List.length_range]
  · exact h
theorem lgs_ok {k p : Nat} {bs : List Nat} (h : bs.length = k + 1) (bo : BestOk bs) : BestOk (lgs k bs p) := by
  unfold lgs
  split
  · intro j b hb
    rw [List.getElem?_map] at hb
    cases e : (List.range (k + 1))[j]? with
    | none => rw [e] at hb; cases hb
    | some i =>
      rw [e] at hb
      have hj : j < k + 1 := by have := (List.getElem?_eq_some_iff.mp e).1; rwa [List.length_range] at this
      rw [List.getElem?_range hj] at e
      cases e
      cases hb
      exact bw_le bo (by omega)
  · exact bo
theorem lgAt_succ (k i : Nat) : lgAt k (i + 1) = lgs k (lgAt k i) (i + 2) := by
  unfold lgAt
  rw [List.range_succ, List.foldl_append]
  rfl
theorem lgAt_ok (k : Nat) : ∀ i, (lgAt k i).length = k + 1 ∧ BestOk (lgAt k i)
  | 0 => ⟨by unfold lgAt; rw [List.range_zero, List.foldl_nil, List.length_replicate], fun j b h => by
      unfold lgAt at h
      rw [List.range_zero, List.foldl_nil] at h
      rw [List.eq_of_mem_replicate (List.mem_of_getElem? h)]
      exact Nat.one_le_two_pow⟩
  | i + 1 => by
    obtain ⟨h1, h2⟩ := lgAt_ok k i
    rw [lgAt_succ]
    exact ⟨lgs_len h1, lgs_ok h1 h2⟩
def spLong : Sp := fun vs H Q _ => ∃ k : Nat, vs = [.int k] ∧ k ≤ 60 ∧ ∀ H', Same H H' → Q (natV (lgr k)) H'
theorem ok_longest_round (T : Txt K mg) : FnOk P w K mg base CX0 3 T.f_longest_round.f T.f_longest_round.fd ["kept"] spLong := by
  refine T.f_longest_round.F.ok sc_longest_round (fun vs H Q E h => ?_) (fun cdv A outer s H vs Q E hr h => ?_)
  · obtain ⟨k, rfl, _⟩ := h
    rfl
  obtain ⟨k, rfl, h60, q⟩ := h
  refine ⟨_, (pss_cons (ps_if (pt_not (pt_val (pe_call (ok_is_within T) (hr.mono (by first | decide | omega)) (by rfl) T.f_is_within.g T.f_is_within.F.kp T.f_is_within.b .nil pass0 (pa_cons (pv 0) (pa_cons pe_int (pa_cons (pe_c_MOST_KEPT T) pa_nil)))))) (pss_one ps_never) pss_nil)
      (pss_cons (ps_set (i := 1) sc_longest_round.nd rfl (.inr rfl) (pe_op op_rep (pe_lst (pa_cons pe_int pa_nil)) (pe_op op_add (pv 0) pe_int)))
      (pss_cons (ps_for PassesOwn.never rfl (pi_range2 (by rfl) T.b_range (pa_cons pe_int (pa_cons (pe_op op_add (pv 0) pe_int) pa_nil))) (pg_name (i := 2) sc_longest_round.nd rfl (.inr rfl))
        (pss_one (ps_if (pt_val (pe_call (ok_is_prime T) (hr.mono (by first | decide | omega)) (by rfl) T.f_is_prime.g T.f_is_prime.F.kp T.f_is_prime.b .nil pass0 (pa_cons (pv 2) pa_nil))) (pss_one (ps_set (i := 1) sc_longest_round.nd rfl (.inr rfl) (pe_lc (own := [("many", 3)]) rfl sc_longest_round.nd (pi_range1 (by rfl) T.b_range (pa_cons (pe_op op_add (pv 0) pe_int) pa_nil)) (blkOk_by (own := [("many", 3)]) (N := N_longest_round) (sc := defScope s_longest_round) (by decide +kernel)) (fun _ _ _ _ _ => (pg_name (i := 3) sc_longest_round.nd rfl (.inl rfl))) (fun _ _ _ _ _ => pts_nil) (fun _ _ _ _ _ => (pe_call (ok_best_with T) (hr.mono (by first | decide | omega)) (by rfl) T.f_best_with.g T.f_best_with.F.kp T.f_best_with.b .nil pass0 (pa_cons (pv 1) (pa_cons (pv 2) (pa_cons (pv 3) pa_nil)))))))) pss_nil)))
      (pss_one (ps_ret (pe_ix ix_seq (pv 1) (pv 0) (fun _ _ => rfl))))))), ?_⟩
  walk_at "rd"
  refine ⟨_, rfl, _, .int k, 0, 60, rfl, (by unfold At; rfl), ?_⟩
  have ew : isWithin (.int k) 0 60 = true := by
    show (decide ((0 : Int) ≤ (k : Int)) && decide ((k : Int) ≤ 60)) = true
    rw [decide_eq_true (by omega), decide_eq_true (by omega)]
    rfl
  rw [ew]
  refine ⟨_, rfl, (by show 1 ≤ sizeLine; decide), fun a0 n0 => ⟨_, rfl, _, _, rfl, rfl, a0, _, _, rfl, rfl, upd_same, (by omega), (by omega), ?_, fun b nb => ?_⟩⟩
  · show 1 * _ ≤ sizeLine
    have : 61 ≤ sizeLine := by decide
    omega
  have el : (List.replicate ((k : Int) + 1).toNat [V.int 1]).flatten = (lgAt k 0).map natV := by
    rw [show ((k : Int) + 1).toNat = k + 1 by omega]
    unfold lgAt
    rw [List.range_zero, List.foldl_nil, List.map_replicate]
    generalize k + 1 = n
    induction n with
    | zero => rfl
    | succ n ih => rw [List.replicate_succ, List.flatten_cons, ih, List.replicate_succ]; rfl
  rw [el]
  have s0 : Same H (upd (upd H a0 (.lst [V.int 1])) b (.lst ((lgAt k 0).map natV))) := (same_upd n0).trans (same_upd nb)
  refine fr_rng2 ?_
  walk_at "rd"
  refine ⟨_, rfl, _, _, rfl, rfl, _, _, rfl, ⟨by decide, by decide, by omega, by omega⟩, ?_⟩
  rw [show ((k : Int) + 1 - 2).toNat = k - 1 by omega]
  refine ForGo.range (fun i σ H' => ∃ (c : Addr) (y z : Option V), σ = [some (.int k), some (.ref c), y, z] ∧ Same H H' ∧ H' c = some (.lst ((lgAt k i).map natV))) ⟨b, _, _, rfl, s0, upd_same⟩ ?_ ?_
  · rintro i σ H' hi ⟨c, y, z, rfl, s1, hc⟩
    obtain ⟨l1, l2⟩ := lgAt_ok k i
    walk_at "rd"
    refine ⟨_, rfl, i + 2, (by rw [show (2 : Int) + (i : Nat) = ((i + 2 : Nat) : Int) by omega]), by omega, by omega, fun H2 s2 => ?_⟩
    refine ⟨_, rfl, ?_⟩
    have hc2 := s2 _ _ hc
    by_cases hp : prm (i + 2) = true
    · rw [hp]
      refine iteT (lc_rng1 ?_)
      walk_at "rd"
      refine ⟨_, rfl, _, _, rfl, rfl, _, rfl, (by omega), (by omega), fun D nD => ?_⟩
      rw [show ((k : Int) + 1).toNat = k + 1 by omega]
      refine LcGo.range (fun j H' => Same H2 H' ∧ H' D = some (.lst (((List.range j).map (bw (lgAt k i) (i + 2))).map natV))) ⟨same_upd nD, upd_same⟩ ?_ ?_
      · rintro j H3 hj ⟨s3, hD⟩
        walk_at "rd"
        refine ⟨rfl, _, rfl, _, rfl, _, rfl, c, _, i + 2, j, (by rw [show (2 : Int) + (i : Nat) = ((i + 2 : Nat) : Int) by omega, Int.zero_add]), SqL.of (s3 _ _ hc2), by omega, by omega, by omega, by omega, l2, ?_⟩
        refine ⟨_, hD, ?_, same_mut s3 nD, ?_⟩
        · rw [List.length_map, List.length_map, List.length_range]
          exact Nat.lt_of_lt_of_le (show j < 62 by omega) (by decide)
        · rw [upd_same, List.range_succ, List.map_append, List.map_append]
          rfl
      · rintro H3 ⟨s3, hD⟩
        refine ⟨D, _, _, rfl, s1.trans (s2.trans s3), ?_⟩
        rw [hD, lgAt_succ]
        unfold lgs
        rw [if_pos hp]
    · have hp' : prm (i + 2) = false := by cases h : prm (i + 2) with
        | true => exact absurd h hp
        | false => rfl
      rw [hp']
      refine iteF ⟨c, _, _, rfl, s1.trans s2, ?_⟩
      rw [hc2, lgAt_succ]
      unfold lgs
      rw [if_neg hp]
  · rintro σ H' ⟨c, y, z, rfl, s1, hc⟩
    obtain ⟨l1, l2⟩ := lgAt_ok k (k - 1)
    exact ⟨_, rfl, _, rfl, ix_row (.inl (SqL.of hc)) (at_nat rfl (by omega)) (q _ s1)⟩

/-! ## the law's own draws -/
theorem fresh_back' {H H' : Hp} {p : Addr} (e : Same H H') (h : H' p = none) : H p = none := e.free h
def Spr (H : Hp) (p : Addr) : Prop := ∃ F S C : Int, H p = some (.lst [.int F, .int S, .int C]) ∧ 0 ≤ F ∧ 0 ≤ S ∧ S < 2305843009213693951 ∧ 0 ≤ C
/-- all but the spring at p is as it was -/
structure Go (p : Addr) (H H' : Hp) : Prop where
  keep : ∀ b o, b ≠ p → H b = some o → H' b = some o
  spr : Spr H' p
theorem Go.trans {p : Addr} {H H1 H2 : Hp} (a : Go p H H1) (b : Go p H1 H2) : Go p H H2 := ⟨fun c o hc h => b.keep c o hc (a.keep c o hc h), b.spr⟩
theorem Spr.same {p : Addr} {H H' : Hp} (h : Spr H p) (e : Same H H') : Spr H' p := by
  obtain ⟨F, S, C, h1, h2⟩ := h
  exact ⟨F, S, C, e _ _ h1, h2⟩
theorem Go.of_same {p : Addr} {H H' : Hp} (h : Spr H p) (e : Same H H') : Go p H H' := ⟨fun b o _ k => e b o k, h.same e⟩
theorem Go.refl {p : Addr} {H : Hp} (h : Spr H p) : Go p H H := ⟨fun _ _ _ k => k, h⟩
theorem Go.same {p : Addr} {H H1 H2 : Hp} (a : Go p H H1) (e : Same H1 H2) : Go p H H2 := a.trans (.of_same a.spr e)
theorem Spr.ne {p b : Addr} {H : Hp} (h : Spr H p) (hb : H b = none) : b ≠ p := fun z => by
  obtain ⟨F, S, C, h1, _⟩ := h
  rw [z, h1] at hb
  cases hb
theorem pow60 : (10 : Nat) ^ 60 ≤ 2 ^ 200 := by decide +kernel
theorem fig_step {F r : Int} {n : Nat} (h0 : 0 ≤ F) (h : F.natAbs < 2 ^ n) (r0 : 0 ≤ r) (hr : r < 1000000000000000000000000000000000000000000000000000000000000) : 0 ≤ F * 1000000000000000000000000000000000000000000000000000000000000 + r ∧ (F * 1000000000000000000000000000000000000000000000000000000000000 + r).natAbs < 2 ^ (n + 200) := by
  obtain ⟨f, rfl⟩ := Int.eq_ofNat_of_zero_le h0
  obtain ⟨g, rfl⟩ := Int.eq_ofNat_of_zero_le r0
  have e : ((f : Int) * 1000000000000000000000000000000000000000000000000000000000000 + (g : Int)) = ((f * 1000000000000000000000000000000000000000000000000000000000000 + g : Nat) : Int) := by
    rw [Int.natCast_add, Int.natCast_mul]
    rfl
  rw [e]
  refine ⟨Int.natCast_nonneg _, ?_⟩
  rw [Int.natAbs_natCast] at h ⊢
  have hg : g < 1000000000000000000000000000000000000000000000000000000000000 := by omega
  have h1 : f * 1000000000000000000000000000000000000000000000000000000000000 + g < (f + 1) * 1000000000000000000000000000000000000000000000000000000000000 := by
    rw [Nat.add_mul, Nat.one_mul]
    omega
  have h2 : (f + 1) * 1000000000000000000000000000000000000000000000000000000000000 ≤ 2 ^ n * 2 ^ 200 := Nat.mul_le_mul h pow60
  rw [Nat.pow_add]
  exact Nat.lt_of_lt_of_le h1 h2
theorem cut63 (xs : List V) (h : xs.length ≤ 63) : cutV xs none (some 63) = xs := by
  unfold cutV
  rw [HT.sIx_none, show HT.sIx xs.length xs.length (some 63) = min 63 xs.length from HT.sIx_nat xs.length xs.length 63, List.drop_zero, Nat.sub_zero, Nat.min_eq_right h, List.take_length]
def spSpring (K : PySem.W.Frag) : Sp := fun vs H Q _ => ∃ (a : Addr) (ns : List Int), vs = [.ref a] ∧ SqL K H a (ns.map V.int) ∧ ns.length ≤ 63 ∧ ∀ H' p, Same H H' → H p = none → Spr H' p → Q (.ref p) H'
theorem ok__law_spring (T : Txt K mg) : FnOk P w K mg base CX0 1 T.f__law_spring.f T.f__law_spring.fd ["script"] (spSpring K) := by
  refine T.f__law_spring.F.ok sc__law_spring (fun vs H Q E h => ?_) (fun cdv A outer s H vs Q E hr h => ?_)
  · obtain ⟨v, d, rfl, _⟩ := h
    rfl
  obtain ⟨a, ns, rfl, hs, hlen, q⟩ := h
  refine ⟨_, (pss_cons (ps_set (i := 1) sc__law_spring.nd rfl (.inl rfl) pe_int)
      (pss_cons (ps_set (i := 2) sc__law_spring.nd rfl (.inl rfl) pe_int)
      (pss_cons (ps_for PassesOwn.never rfl (pi_list (pe_slice sl_list (pv 0) po_none (po_some pe_int))) (pg_name (i := 3) sc__law_spring.nd rfl (.inl rfl))
        (pss_cons (ps_if (pt_cmpR op_ge (pe_callB call_abs (by rfl) T.b_abs (by decide +kernel) (pa_cons (pv 3) pa_nil)) (pe_op op_pow pe_int pe_int) (nomark _)) (pss_one (ps_set (i := 1) sc__law_spring.nd rfl (.inl rfl) (pe_op op_add (pe_op op_mulW (pv 1) (pe_op op_pow pe_int pe_int)) (pe_op op_mod (pe_callB call_abs (by rfl) T.b_abs (by decide +kernel) (pa_cons (pv 3) pa_nil)) (pe_op op_pow pe_int pe_int))))) pss_nil)
      (pss_one (ps_set (i := 2) sc__law_spring.nd rfl (.inl rfl) (pe_op op_mod (pe_op op_add (pe_op op_add (pe_op op_mul (pv 2) pe_int) (pe_op op_mod (pv 3) pe_int)) pe_int) pe_int)))))
      (pss_one (ps_ret (pe_lst (pa_cons (pv 1) (pa_cons (pv 2) (pa_cons pe_int pa_nil))))))))), ?_⟩
  walk_at "rd"
  refine fr_list ?_
  walk_at "rd"
  refine ⟨_, rfl, 63, rfl, a, ns.map V.int, rfl, hs, fun b nb => ?_⟩
  rw [cut63 _ (by rw [List.length_map]; exact hlen)]
  refine ⟨b, rfl, ⟨_, SqL.of upd_same⟩, ForGo.list (xs := ns.map V.int)
    (fun i σ H2 => ∃ (F S : Int) (y : Option V), σ = [some (.ref a), some (.int F), some (.int S), y] ∧ H2 = upd H b (.lst (ns.map V.int)) ∧ 0 ≤ F ∧ F.natAbs < 2 ^ (200 * i + 1) ∧ 0 ≤ S ∧ S < 2305843009213693951)
    ⟨0, 88651, none, rfl, rfl, by decide, by decide, by decide, by decide⟩ (fun i σ H2 _ ⟨_, _, _, _, e, _⟩ => by rw [e]; exact SqL.of upd_same) ?_ ?_⟩
  · rintro i x σ H2 hx ⟨F, S, y, rfl, rfl, hF0, hF, hS0, hS⟩
    rw [List.getElem?_map] at hx
    obtain ⟨c, hc, rfl⟩ : ∃ c, ns[i]? = some c ∧ V.int c = x := by
      cases e : ns[i]? with
      | none => rw [e] at hx; cases hx
      | some c => rw [e] at hx; exact ⟨c, rfl, Option.some.inj hx⟩
    have hi : i < ns.length := (List.getElem?_eq_some_iff.mp hc).1
    have hab : 0 ≤ (if c < 0 then -c else c) := by split <;> omega
    have hm1 : 0 ≤ (if c < 0 then -c else c) % 1000000000000000000000000000000000000000000000000000000000000 := Int.emod_nonneg _ (by decide)
    have hm2 : (if c < 0 then -c else c) % 1000000000000000000000000000000000000000000000000000000000000 < 1000000000000000000000000000000000000000000000000000000000000 := Int.emod_lt_of_pos _ (by decide)
    have stp := fig_step hF0 hF hm1 hm2
    walk_at "rd"
    have h60 : (10 : Int) ^ (Int.toNat 60) = 1000000000000000000000000000000000000000000000000000000000000 := by decide +kernel
    have hs1 : 0 ≤ (S * 69069 + c % 2305843009213693921 + 7) % 2305843009213693951 := Int.emod_nonneg _ (by decide)
    have hs2 : (S * 69069 + c % 2305843009213693921 + 7) % 2305843009213693951 < 2305843009213693951 := Int.emod_lt_of_pos _ (by decide)
    have hpw : 2 ^ (200 * i + 1) ≤ 2 ^ (200 * (i + 1) + 1) := Nat.pow_le_pow_right (by decide) (by omega)
    refine ⟨_, rfl, _, rfl, ⟨_, _, rfl, rfl, ⟨by decide, by decide, by decide⟩, _, _, rfl, rfl, _, rfl, ite2 (fun e => ?_) (fun e => ?_)⟩⟩
    · refine ⟨_, rfl, _, _, rfl, rfl, ⟨by decide, by decide, by decide⟩, ?_⟩
      walk_at "rd"
      rw [h60]
      refine ⟨_, _, rfl, rfl, wide_mul hF (b := 200) (by decide +kernel) (by omega) (by decide) (by omega), ?_⟩
      refine ⟨_, rfl, _, rfl, ⟨_, _, rfl, rfl, ⟨by decide, by decide, by decide⟩, ?_⟩⟩
      walk_at "rd"
      rw [h60]
      refine ⟨_, _, rfl, rfl, (show (0 : Int) < 1000000000000000000000000000000000000000000000000000000000000 by decide), _, _, rfl, rfl, ?_⟩
      refine ⟨_, rfl, _, _, rfl, rfl, .inl ⟨by omega, by omega⟩, _, rfl, _, _, rfl, rfl, (show (0 : Int) < 2305843009213693921 by decide), _, _, rfl, rfl, _, _, rfl, rfl, _, _, rfl, rfl, (show (0 : Int) < 2305843009213693951 by decide), ?_⟩
      exact ⟨_, _, _, rfl, rfl, stp.1, Nat.lt_of_lt_of_le stp.2 (Nat.pow_le_pow_right (by decide) (by omega)), hs1, hs2⟩
    · refine ⟨_, rfl, _, _, rfl, rfl, .inl ⟨by omega, by omega⟩, _, rfl, _, _, rfl, rfl, (show (0 : Int) < 2305843009213693921 by decide), _, _, rfl, rfl, _, _, rfl, rfl, _, _, rfl, rfl, (show (0 : Int) < 2305843009213693951 by decide), ?_⟩
      exact ⟨_, _, _, rfl, rfl, hF0, Nat.lt_of_lt_of_le hF hpw, hs1, hs2⟩
  · rintro σ H2 ⟨F, S, y, rfl, rfl, hF0, hF, hS0, hS⟩
    walk_at "rd"
    refine ⟨_, rfl, _, rfl, (by show 3 ≤ sizeLine; decide), fun p np => ?_⟩
    refine q _ p (fun c o e => ?_) ?_ ⟨F, S, 0, upd_same, hF0, hS0, hS, Int.le_refl _⟩
    · rw [upd_ne (ne_of_none ((same_upd nb) c o e) np)]
      exact same_upd nb c o e
    · exact fresh_back' (same_upd nb) np

def spDraw : Sp := fun vs H Q _ => ∃ (p : Addr) (m : Int), vs = [.ref p, .int m] ∧ Spr H p ∧ 0 < m ∧ m.natAbs < 2 ^ 250 ∧ ∀ H' r, Go p H H' → 0 ≤ r → r < m → Q (.int r) H'
theorem go_set {p : Addr} {H : Hp} {F S C : Int} (h1 : 0 ≤ F) (h2 : 0 ≤ S) (h3 : S < 2305843009213693951) (h4 : 0 ≤ C) : Go p H (upd H p (.lst [.int F, .int S, .int C])) :=
  ⟨fun b o hb e => by rw [upd_ne hb]; exact e, F, S, C, upd_same, h1, h2, h3, h4⟩
theorem ok__law_draw (T : Txt K mg) : FnOk P w K mg base CX0 1 T.f__law_draw.f T.f__law_draw.fd ["spring", "many"] spDraw := by
  refine T.f__law_draw.F.ok sc__law_draw (fun vs H Q E h => ?_) (fun cdv A outer s H vs Q E hr h => ?_)
  · obtain ⟨v, d, rfl, _⟩ := h
    rfl
  obtain ⟨p, m, rfl, ⟨F, S, C, hp, hF, hS, hS2, hC⟩, hm, hm2, q⟩ := h
  refine ⟨_, (pss_cons (ps_if (pt_cmpR op_gt (pe_ix ix_seq (pv 0) pe_int (fun _ _ => rfl)) pe_int (nomark _)) (pss_cons (ps_set (i := 2) sc__law_draw.nd rfl (.inl rfl) (pe_op op_mod (pe_ix ix_seq (pv 0) pe_int (fun _ _ => rfl)) (pv 1)))
      (pss_cons (ps_asg (pe_op op_fdivW (pe_ix ix_seq (pv 0) pe_int (fun _ _ => rfl)) (pv 1)) (pg_sub (pv 0) pe_int set_list))
      (pss_one (ps_ret (pv 2))))) pss_nil)
      (pss_cons (ps_asg (pe_op op_add (pe_ix ix_seq (pv 0) pe_int (fun _ _ => rfl)) pe_int) (pg_sub (pv 0) pe_int set_list))
      (pss_cons (ps_set (i := 3) sc__law_draw.nd rfl (.inl rfl) (pe_op op_mod (pe_op op_mul (pe_ix ix_seq (pv 0) pe_int (fun _ _ => rfl)) (pe_ix ix_seq (pv 0) pe_int (fun _ _ => rfl))) pe_int))
      (pss_cons (ps_asg (pe_op op_mod (pe_op op_add (pe_op op_add (pv 3) (pe_op op_mul (pe_op op_mul pe_int (pe_ix ix_seq (pv 0) pe_int (fun _ _ => rfl))) (pe_ix ix_seq (pv 0) pe_int (fun _ _ => rfl)))) pe_int) pe_int) (pg_sub (pv 0) pe_int set_list))
      (pss_one (ps_ret (pe_op op_mod (pe_op op_fdiv (pe_ix ix_seq (pv 0) pe_int (fun _ _ => rfl)) pe_int) (pv 1)))))))), ?_⟩
  walk_at "rd"
  have at0 : ∀ {a b c : V}, atI [a, b, c] 0 = some a := fun {a b c} => rfl
  refine ⟨_, rfl, ix_lst hp (at_of (j := 0) rfl rfl) ⟨_, _, rfl, rfl, _, rfl, ite2 (fun e => ?_) (fun e => ?_)⟩⟩
  · refine ⟨_, rfl, ix_lst hp (at_of (j := 0) rfl rfl) ⟨_, rfl, _, _, rfl, rfl, hm, ?_⟩⟩
    refine ⟨_, rfl, ix_lst hp (at_of (j := 0) rfl rfl) ⟨_, rfl, _, _, rfl, rfl, wide_div hm hm2 (by decide) (by decide), ?_⟩⟩
    refine ⟨_, rfl, p, _, 0, 0, rfl, rfl, hp, rfl, _, rfl, ?_⟩
    exact q _ _ (go_set (Int.ediv_nonneg hF (by omega)) hS hS2 hC) (Int.emod_nonneg _ (by omega)) (Int.emod_lt_of_pos _ hm)
  · have hq1 : 0 ≤ S * S % 2305843009213693951 := Int.emod_nonneg _ (by decide)
    have hz1 : 0 ≤ (S * S % 2305843009213693951 + 7919 * (C + 1) * S + 104729) % 2305843009213693951 := Int.emod_nonneg _ (by decide)
    have hz2 : (S * S % 2305843009213693951 + 7919 * (C + 1) * S + 104729) % 2305843009213693951 < 2305843009213693951 := Int.emod_lt_of_pos _ (by decide)
    have b1 : -(2 ^ 64) < S ∧ S < 2 ^ 64 := by omega
    refine ⟨_, rfl, ix_lst hp (at_of (j := 2) rfl rfl) ⟨_, _, rfl, rfl, ?_⟩⟩
    refine ⟨_, rfl, p, _, 2, 2, rfl, rfl, hp, rfl, ?_⟩
    have hp2 : (upd H p (.lst [.int F, .int S, .int (C + 1)])) p = some (.lst [.int F, .int S, .int (C + 1)]) := upd_same
    refine ⟨_, rfl, ix_lst hp2 (at_of (j := 1) rfl rfl) ⟨_, rfl, ix_lst hp2 (at_of (j := 1) rfl rfl) ⟨_, _, rfl, rfl, .inl b1, _, _, rfl, rfl, (show (0 : Int) < 2305843009213693951 by decide), ?_⟩⟩⟩
    refine ⟨_, rfl, _, rfl, ix_lst hp2 (at_of (j := 2) rfl rfl) ⟨_, _, rfl, rfl, .inl ⟨by decide, by decide⟩, _, rfl, ix_lst hp2 (at_of (j := 1) rfl rfl) ⟨_, _, rfl, rfl, .inr b1, _, _, rfl, rfl, _, _, rfl, rfl, _, _, rfl, rfl, (show (0 : Int) < 2305843009213693951 by decide), ?_⟩⟩⟩
    refine ⟨_, rfl, p, _, 1, 1, rfl, rfl, hp2, rfl, ?_⟩
    have hp3 : (upd (upd H p (.lst [.int F, .int S, .int (C + 1)])) p (.lst [.int F, .int ((S * S % 2305843009213693951 + 7919 * (C + 1) * S + 104729) % 2305843009213693951), .int (C + 1)])) p = some (.lst [.int F, .int ((S * S % 2305843009213693951 + 7919 * (C + 1) * S + 104729) % 2305843009213693951), .int (C + 1)]) := upd_same
    refine ⟨_, rfl, ix_lst hp3 (at_of (j := 1) rfl rfl) ⟨_, _, rfl, rfl, ⟨by decide, by decide⟩, _, rfl, _, _, rfl, rfl, hm, ?_⟩⟩
    refine q _ _ ?_ (Int.emod_nonneg _ (by omega)) (Int.emod_lt_of_pos _ hm)
    exact ⟨fun b o hb e => by rw [upd_ne hb, upd_ne hb]; exact e, F, _, _, upd_same, hF, hz1, hz2, by omega⟩

/-! ## lists and tuples, mixed within -/
theorem iteE {c : Bool} {A B : Prop} (h1 : c = true → A) (h2 : c = false → B) : if c = true then A else B := by
  cases c with
  | true => exact iteT (h1 rfl)
  | false => exact iteF (h2 rfl)
theorem norm_row {d : Dt} (h : isRow d = true) : norm d = .lst (d.items.map norm) := by
  cases d with
  | lst ds => simp only [norm, Dt.items, normAll_map]
  | tup ds => simp only [norm, Dt.items, normAll_map]
  | _ => cases h
def spLists (n : Nat) (K : PySem.W.Frag) : Sp := fun vs H Q _ => ∃ v d, vs = [v] ∧ At K H v d ∧ deep d < n ∧ Fits d ∧ bulk d ≤ 300000 ∧
  ∀ H' u fp, Same H H' → AtF H' u (norm d) fp → fp.Nodup → (∀ b ∈ fp, H b = none) → Q u H'
def spHanded (K : PySem.W.Frag) : Sp := fun vs H Q _ => ∃ p v d, vs = [.ref p, v] ∧ Spr H p ∧ At K (hid p H) v d ∧ isRow d = true ∧ deep d ≤ 2 ∧ Fits d ∧ bulk d ≤ 300000 ∧
  ∀ H' u e, Go p H H' → At K (hid p H') u e → norm e = norm d → Q u H'
theorem Go.hid {p : Addr} {H H' : Hp} (g : Go p H H') : Same (hid p H) (hid p H') := fun b o h => by
  obtain ⟨h1, h2⟩ := hid_at h
  rw [hid_ne h1]
  exact g.keep b o h1 h2
theorem Spr.some {p : Addr} {H : Hp} (h : Spr H p) : H p ≠ none := by
  obtain ⟨F, S, C, h, _⟩ := h
  rw [h]
  exact nofun
theorem hid_fresh {p : Addr} {H H' : Hp} (h : Spr H p) {v : V} {d : Dt} {fp : List Addr} (hv : AtF H' v d fp) (hf : ∀ b ∈ fp, H b = none) : AtF (hid p H') v d fp :=
  AtF.same _ _ _ hv fun b o hb e => by
    rw [hid_ne (fun z => h.some (by rw [← z]; exact hf b hb))]
    exact e

/-! ## alike all through -/
def spSame (n : Nat) (K : PySem.W.Frag) : Sp := fun vs H Q _ => ∃ v u d, vs = [v, u] ∧ At K H v d ∧ At K H u d ∧ deep d < n ∧ Fits d ∧ bulk d ≤ 300000 ∧ ∀ H', Same H H' → Q (.bl true) H'
theorem ok__law_same (T : Txt K mg) : ∀ n, FnOk P w K mg base CX0 n T.f__law_same.f T.f__law_same.fd ["found", "due"] (spSame n K)
  | 0 => ⟨fun vs H Q E h => by obtain ⟨v, u, d, rfl, _⟩ := h; rfl, fun A outer s H args us vs Q E _ _ _ _ h => by obtain ⟨v, u, d, _, _, _, h, _⟩ := h; exact absurd h (Nat.not_lt_zero _)⟩
  | n + 1 => by
    have ih := ok__law_same T n
    refine T.f__law_same.F.ok sc__law_same (fun vs H Q E h => ?_) (fun cdv A outer s H vs Q E hr h => ?_)
    · obtain ⟨v, u, d, rfl, _⟩ := h
      rfl
    obtain ⟨v, u, d, rfl, hv, hu, hdp, hft, hbk, q⟩ := h
    refine ⟨_, (pss_cons (ps_if (pt_val (pe_callB call_isiT (by rfl) T.b_isinstance (by decide +kernel) (pa_cons (pv 1) (pa_cons (pe_tup (pa_cons (pe_bltn (v := .ty "list") (by rfl) T.b_list (by decide +kernel) rfl) (pa_cons (pe_bltn (v := .ty "tuple") (by rfl) T.b_tuple (by decide +kernel) rfl) pa_nil))) pa_nil)))) (pss_cons (ps_if (PW.pt (pw_or (pt_cmpR op_ne (pe_callB call_isi (by rfl) T.b_isinstance (by decide +kernel) (pa_cons (pv 0) (pa_cons (pe_bltn (v := .ty "list") (by rfl) T.b_list (by decide +kernel) rfl) pa_nil))) (pe_callB call_isi (by rfl) T.b_isinstance (by decide +kernel) (pa_cons (pv 1) (pa_cons (pe_bltn (v := .ty "list") (by rfl) T.b_list (by decide +kernel) rfl) pa_nil))) (nomark _)) (pw_or1 (pt_cmpR op_ne (pe_callB call_isi (by rfl) T.b_isinstance (by decide +kernel) (pa_cons (pv 0) (pa_cons (pe_bltn (v := .ty "tuple") (by rfl) T.b_tuple (by decide +kernel) rfl) pa_nil))) (pe_callB call_isi (by rfl) T.b_isinstance (by decide +kernel) (pa_cons (pv 1) (pa_cons (pe_bltn (v := .ty "tuple") (by rfl) T.b_tuple (by decide +kernel) rfl) pa_nil))) (nomark _))))) (pss_one (ps_ret pe_bl)) pss_nil)
      (pss_one (ps_ret (pe_and (pe_cmpR op_eq (pe_callB (call_lenK K) (by rfl) T.b_len (by decide +kernel) (pa_cons (pv 0) pa_nil)) (pe_callB (call_lenK K) (by rfl) T.b_len (by decide +kernel) (pa_cons (pv 1) pa_nil)) (nomark _)) (pe_one (pe_callB (cr_all rfl) (by rfl) T.b_all (by decide +kernel) (pa_cons (pe_lc (own := [("k", 2)]) rfl sc__law_same.nd (pi_range1 (by rfl) T.b_range (pa_cons (pe_callB (call_lenK K) (by rfl) T.b_len (by decide +kernel) (pa_cons (pv 1) pa_nil)) pa_nil)) (blkOk_by (own := [("k", 2)]) (N := N__law_same) (sc := defScope s__law_same) (by decide +kernel)) (fun _ _ _ _ _ => (pg_name (i := 2) sc__law_same.nd rfl (.inl rfl))) (fun _ _ _ _ _ => pts_nil) (fun _ _ _ _ _ => (pe_call (ih) (hr.mono (by first | decide | omega)) (by rfl) T.f__law_same.g T.f__law_same.F.kp T.f__law_same.b .nil pass0 (pa_cons (pe_ix (ix_seqK K) (pv 0) (pv 2) (fun _ _ => rfl)) (pa_cons (pe_ix (ix_seqK K) (pv 1) (pv 2) (fun _ _ => rfl)) pa_nil))))) pa_nil))))))) pss_nil)
      (pss_cons (ps_if (PW.pt (pw_or (pt_cmpR op_isN (pv 1) pe_non (nomark _)) (pw_or1 (pt_cmpR op_isN (pv 0) pe_non (nomark _))))) (pss_one (ps_ret (pe_and (pe_cmpR op_isN (pv 1) pe_non (nomark _)) (pe_one (pe_cmpR op_isN (pv 0) pe_non (nomark _)))))) pss_nil)
      (pss_cons (ps_if (PW.pt (pw_or (pt_cmpR op_ne (pe_callB call_isi (by rfl) T.b_isinstance (by decide +kernel) (pa_cons (pv 1) (pa_cons (pe_bltn (v := .ty "bool") (by rfl) T.b_bool (by decide +kernel) rfl) pa_nil))) (pe_callB call_isi (by rfl) T.b_isinstance (by decide +kernel) (pa_cons (pv 0) (pa_cons (pe_bltn (v := .ty "bool") (by rfl) T.b_bool (by decide +kernel) rfl) pa_nil))) (nomark _)) (pw_or1 (pt_cmpR op_ne (pe_callB call_isi (by rfl) T.b_isinstance (by decide +kernel) (pa_cons (pv 1) (pa_cons (pe_bltn (v := .ty "str") (by rfl) T.b_str (by decide +kernel) rfl) pa_nil))) (pe_callB call_isi (by rfl) T.b_isinstance (by decide +kernel) (pa_cons (pv 0) (pa_cons (pe_bltn (v := .ty "str") (by rfl) T.b_str (by decide +kernel) rfl) pa_nil))) (nomark _))))) (pss_one (ps_ret pe_bl)) pss_nil)
      (pss_one (ps_ret (pe_cmpR op_eq (pv 0) (pv 1) (nomark _))))))), ?_⟩
    walk_at "rd"
    refine ⟨u, rfl, (by show 2 ≤ sizeLine; decide), fun t nt => ?_⟩
    have s0 : Same H (upd H t (.tup [.ty "list", .ty "tuple"])) := same_upd nt
    have hv0 := At.same s0 _ _ hv
    have hu0 := At.same s0 _ _ hu
    refine isi_row hu0 upd_same ⟨_, rfl, iteE (fun e => ?_) (fun e => ?_)⟩
    · obtain ⟨a, xs, rfl, hrow, hit⟩ := at_row hv0 e
      obtain ⟨b, ys, rfl, hrow2, hit2⟩ := at_row hu0 e
      have hxl := hit.len
      have hyl := hit2.len
      have hlb := len_bulk d
      have neq : ∀ x : V, (!decide (x = x)) = false := fun x => by rw [decide_eq_true rfl]; rfl
      refine ⟨_, rfl, isi_ty hv0 (by decide) ⟨_, rfl, isi_ty hu0 (by decide) ⟨rfl, _, rfl, ?_⟩⟩⟩
      rw [neq]
      refine iteF ⟨_, rfl, isi_ty hv0 (by decide) ⟨_, rfl, isi_ty hu0 (by decide) ⟨rfl, _, rfl, ?_⟩⟩⟩
      rw [neq]
      refine iteF ⟨_, rfl, len_row hrow ⟨_, rfl, len_row hrow2 ⟨rfl, _, rfl, ?_⟩⟩⟩
      rw [hxl, hyl, decide_eq_true rfl]
      refine iteT (lc_rng1 ?_)
      walk_at "rd"
      refine ⟨_, rfl, len_row hrow2 ⟨_, rfl, by omega, by omega, fun D nD => ?_⟩⟩
      have hDr : ((ys.length : Nat) : Int).toNat = d.items.length := by rw [hyl]; rfl
      rw [hDr]
      refine LcGo.range (fun i H' => Same (upd H t (.tup [.ty "list", .ty "tuple"])) H' ∧ H' D = some (.lst (List.replicate i (.bl true)))) ⟨same_upd nD, upd_same⟩ ?_ ?_
      · rintro i H' hi ⟨s1, hD⟩
        have hc : d.items[i]? = some d.items[i] := List.getElem?_eq_getElem hi
        obtain ⟨x, hx, ax⟩ := hit.get hc
        obtain ⟨y, hy, ay⟩ := hit2.get hc
        have hcm := List.mem_of_getElem? hc
        walk_at "rd"
        refine ⟨rfl, _, rfl, _, rfl, ix_row (hrow.same s1) (at_ofA (j := i) (by omega) hx) ⟨_, rfl, _, rfl, ix_row (hrow2.same s1) (at_ofA (j := i) (by omega) hy) ?_⟩⟩
        refine ⟨x, y, _, rfl, At.same s1 _ _ ax, At.same s1 _ _ ay, by have := mem_deep hcm; omega, mem_fits hft hcm, by have := mem_bulk hcm; omega, fun H3 s3 => ?_⟩
        refine ⟨_, s3 _ _ hD, ?_, same_mut (s1.trans s3) nD, ?_⟩
        · rw [List.length_replicate]
          exact Nat.lt_of_le_of_lt (show i ≤ 300000 by omega) (by decide)
        · rw [upd_same, List.replicate_succ']
      · rintro H' ⟨s1, hD⟩
        refine ⟨D, List.replicate d.items.length true, rfl, SqL.of (by rw [hD, List.map_replicate]), ?_⟩
        have ea : (List.replicate d.items.length true).all id = true := by
          rw [List.all_eq_true]
          intro x hx
          rw [List.eq_of_mem_replicate hx]
          rfl
        rw [ea]
        exact q _ (s0.trans s1)
    · have neq : ∀ x : V, (!decide (x = x)) = false := fun x => by rw [decide_eq_true rfl]; rfl
      have deq : ∀ x : V, decide (x = x) = true := fun x => decide_eq_true rfl
      refine ⟨_, rfl, rfl, _, rfl, ?_⟩
      by_cases hn : d = .non
      · subst hn
        unfold At at hv0 hu0
        subst hv0 hu0
        rw [deq]
        refine iteT (iteT ⟨_, rfl, rfl, _, rfl, ?_⟩)
        rw [deq]
        refine iteT ⟨_, rfl, rfl, ?_⟩
        rw [deq]
        exact q _ s0
      · have hvu : v = u ∧ u ≠ .non ∧ scal v u = true := by
          cases d with
          | lst ds => cases e
          | tup ds => cases e
          | non => exact absurd rfl hn
          | bl b => unfold At at hv0 hu0; subst hv0 hu0; exact ⟨rfl, nofun, rfl⟩
          | int i => unfold At at hv0 hu0; subst hv0 hu0; exact ⟨rfl, nofun, rfl⟩
          | str w => unfold At at hv0 hu0; obtain ⟨rfl, _⟩ := hv0; obtain ⟨rfl, _⟩ := hu0; exact ⟨rfl, nofun, rfl⟩
          | dic => unfold Fits at hft; exact hft.elim
        obtain ⟨rfl, hnn, hsc⟩ := hvu
        rw [decide_eq_false hnn]
        refine iteF ⟨_, rfl, rfl, _, rfl, ?_⟩
        rw [decide_eq_false hnn]
        refine iteF ⟨_, rfl, isi_ty hu0 (by decide) ⟨_, rfl, isi_ty hv0 (by decide) ⟨rfl, _, rfl, ?_⟩⟩⟩
        rw [neq]
        refine iteF ⟨_, rfl, isi_ty hu0 (by decide) ⟨_, rfl, isi_ty hv0 (by decide) ⟨rfl, _, rfl, ?_⟩⟩⟩
        rw [neq]
        refine iteF ⟨_, rfl, _, rfl, hsc, ?_⟩
        rw [deq]
        exact q _ s0

/-! ## the law's own tables -/
theorem iteE' {b c : Bool} (e : b = c) {A B : Prop} (h1 : c = true → A) (h2 : c = false → B) : (if b = true then A else B) := by
  subst e
  cases b with
  | true => exact h1 rfl
  | false => exact h2 rfl
def spCommon : Sp := fun vs H Q _ => ∃ one other : Nat, vs = [.int one, .int other] ∧ 0 < other ∧ other ≤ 60 ∧ Q (natV (cmn one other)) H
theorem ok__law_common (T : Txt K mg) : FnOk P w K mg base CX0 1 T.f__law_common.f T.f__law_common.fd ["one", "other"] spCommon := by
  refine T.f__law_common.F.ok sc__law_common (fun vs H Q E h => ?_) (fun cdv A outer s H vs Q E hr h => ?_)
  · obtain ⟨n, o, rfl, _⟩ := h
    rfl
  obtain ⟨n, o, rfl, h0, h60, q⟩ := h
  refine ⟨_, (pss_cons (ps_set (i := 2) sc__law_common.nd rfl (.inl rfl) pe_int)
      (pss_cons (ps_while PassesOwn.never (pt_cmpR op_gt (pe_op op_mod (pe_op op_mul (pv 0) (pv 2)) (pv 1)) pe_int (nomark _)) (pss_one (ps_set (i := 2) sc__law_common.nd rfl (.inl rfl) (pe_op op_add (pv 2) pe_int))))
      (pss_one (ps_ret (pe_op op_mul (pv 0) (pv 2)))))), ?_⟩
  walk_at "rd"
  refine ⟨fun f σ H' => ∃ t : Nat, σ = [some (.int n), some (.int o), some (natV t)] ∧ H' = H ∧ 1 ≤ t ∧ t ≤ o ∧ f + t = o + 1 ∧ com n o f t = cmn n o, ⟨o, 1, rfl, rfl, by omega, by omega, by omega, rfl⟩, ?_⟩
  rintro f σ H' ⟨t, rfl, rfl, h1, ht, hf, hb⟩
  have em : ((n : Int) * (t : Int)) % (o : Int) = ((n * t % o : Nat) : Int) := by rw [← Int.natCast_mul, ← Int.natCast_emod]
  refine ⟨_, rfl, _, rfl, _, _, rfl, rfl, .inr (by omega), _, rfl, _, _, rfl, rfl, (show (0 : Int) < (o : Int) by omega), ?_⟩
  have em2 : decide ((0 : Int) < ((n : Int) * (t : Int)) % (o : Int)) = decide (0 < n * t % o) := by
    rw [em]
    by_cases hz : 0 < n * t % o
    · rw [decide_eq_true hz, decide_eq_true (by omega)]
    · rw [decide_eq_false hz, decide_eq_false (by omega)]
  refine ⟨_, _, rfl, rfl, _, rfl, iteE' em2 (fun e => ?_) (fun e => ?_)⟩
  · have hc := of_decide_eq_true e
    cases f with
    | zero => exfalso; omega
    | succ f =>
      have hto : t ≠ o := fun h => by subst h; rw [Nat.mul_mod_left] at hc; exact Nat.lt_irrefl 0 hc
      refine ⟨_, fun σ' H' h => ⟨f, Nat.lt_succ_self f, h⟩, _, rfl, _, _, rfl, rfl, t + 1, ?_, rfl, by omega, by omega, by omega, ?_⟩
      · unfold natV
        rw [Int.natCast_add]
        rfl
      · rw [← hb]
        conv => rhs; unfold com
        rw [if_pos hc]
  · have hc := of_decide_eq_false e
    refine ⟨_, rfl, _, rfl, _, _, rfl, rfl, .inr (by omega), ?_⟩
    have e1 : V.int ((n : Int) * (t : Int)) = natV (cmn n o) := by
      rw [← hb]
      unfold natV
      rw [← Int.natCast_mul]
      cases f with
      | zero => rfl
      | succ f => unfold com; rw [if_neg hc]
    show Q (V.int ((n : Int) * (t : Int))) H'
    rw [e1]
    exact q
/-- a dict by whole numbers, all of them true -/
def setK (ks : List Nat) : List (Key × V) := ks.map fun k : Nat => ((Sum.inl (k : Int) : Key), V.bl true)
theorem inl_nat {j k : Nat} : ((Sum.inl (j : Int) : Key) = Sum.inl (k : Int)) ↔ j = k := ⟨fun h => by have := Sum.inl.inj h; omega, fun h => by rw [h]⟩
theorem putK_set (ks : List Nat) (k : Nat) : putK (setK ks) (Sum.inl (k : Int)) (.bl true) = setK (addK ks k) := by
  have e1 : ((setK ks).any fun kv => decide (kv.1 = (Sum.inl (k : Int) : Key))) = ks.any fun j => decide (j = k) := by
    unfold setK
    rw [List.any_map]
    congr 1
    funext j
    show decide ((Sum.inl (j : Int) : Key) = Sum.inl (k : Int)) = decide (j = k)
    rw [decide_eq_decide]
    exact inl_nat
  unfold putK addK
  rw [e1]
  split
  · unfold setK
    rw [List.map_map]
    refine List.map_congr_left fun j _ => ?_
    show (if (Sum.inl (j : Int) : Key) = Sum.inl (k : Int) then _ else _) = _
    split <;> rfl
  · unfold setK
    rw [List.map_append]
    rfl
theorem addK_len (ks : List Nat) (k : Nat) : ks.length ≤ (addK ks k).length ∧ (addK ks k).length ≤ ks.length + 1 := by
  unfold addK
  split
  · omega
  · rw [List.length_append]
    simp
theorem rowL_len (last : Nat) : ∀ (ones rows : List Nat), rows.length ≤ (rowL rows last ones).length
  | [], rows => Nat.le_refl _
  | o :: ones, rows => Nat.le_trans (addK_len _ _).1 (rowL_len last ones _)
theorem rowL_app (rows : List Nat) (last : Nat) (a b : List Nat) : rowL rows last (a ++ b) = rowL (rowL rows last a) last b := List.foldl_append
theorem rowL_take (rows : List Nat) (last : Nat) (xs : List Nat) (i : Nat) : (rowL rows last (xs.take i)).length ≤ (rowL rows last xs).length := by
  conv => rhs; rw [← List.take_append_drop i xs, rowL_app]
  exact rowL_len _ _ _
theorem rowK_succ (found : List (List Nat)) (kept m : Nat) : rowK found kept (m + 1) = rowL (rowK found kept m) (m + 1) (found.getD (kept - (m + 1)) []) := by
  unfold rowK
  rw [List.range_succ, List.foldl_append]
  rfl
theorem rowK_mono (found : List (List Nat)) (kept : Nat) : ∀ {m n : Nat}, m ≤ n → (rowK found kept m).length ≤ (rowK found kept n).length := by
  intro m n h
  induction h with
  | refl => exact Nat.le_refl _
  | step h ih =>
    rw [rowK_succ]
    exact Nat.le_trans ih (rowL_len _ _ _)
theorem allR_len : ∀ n, (allR n).length = n + 1
  | 0 => rfl
  | n + 1 => by unfold allR; rw [List.length_append, allR_len n]; rfl
theorem rowK_bound : ∀ n < 20, (rowK (allR n) (n + 1) (n + 1)).length ≤ 100 := by decide +kernel
theorem allR_bound : ∀ n < 20, ∀ l ∈ allR n, ∀ x ∈ l, x ≤ 1000 := by decide +kernel
theorem ins_perm (k : Nat) : ∀ xs, (ins k xs).Perm (k :: xs)
  | [] => .refl _
  | x :: xs => by
    unfold ins
    split
    · exact .refl _
    · exact ((ins_perm k xs).cons x).trans (.swap k x xs)
theorem isort_perm : ∀ xs, (isort xs).Perm xs
  | [] => .refl _
  | x :: xs => (ins_perm x _).trans ((isort_perm xs).cons x)
theorem ins_srt (k : Nat) : ∀ {xs : List Nat}, xs.Pairwise (· ≤ ·) → (ins k xs).Pairwise (· ≤ ·)
  | [], _ => List.pairwise_singleton ..
  | x :: xs, h => by
    obtain ⟨h1, h2⟩ := List.pairwise_cons.mp h
    unfold ins
    split
    · rename_i hk
      exact List.pairwise_cons.mpr ⟨fun y hy => by
        rcases List.mem_cons.mp hy with rfl | hy
        · exact hk
        · exact Nat.le_trans hk (h1 y hy), h⟩
    · rename_i hk
      refine List.pairwise_cons.mpr ⟨fun y hy => ?_, ins_srt k h2⟩
      rcases List.mem_cons.mp ((ins_perm k xs).mem_iff.mp hy) with rfl | hy
      · omega
      · exact h1 y hy
theorem isort_srt : ∀ xs, (isort xs).Pairwise (· ≤ ·)
  | [] => .nil
  | x :: xs => ins_srt x (isort_srt xs)
theorem srt_nat {ks : List Nat} {ys : List Int} (h : ys.Perm (ks.map fun k : Nat => (k : Int))) (hp : ys.Pairwise (· ≤ ·)) : ys.map V.int = (isort ks).map natV := by
  have e : ys = (isort ks).map fun k : Nat => (k : Int) := by
    refine List.Perm.eq_of_pairwise (le := fun a b : Int => a ≤ b) (fun a b _ _ h1 h2 => Int.le_antisymm h1 h2) hp ?_ (h.trans ((isort_perm ks).symm.map _))
    rw [List.pairwise_map]
    exact (isort_srt ks).imp fun h => Int.ofNat_le.mpr h
  rw [e, List.map_map]
  rfl

/-- a list of lists of numbers, each at its own address -/
def RowsAt (H : Hp) (as : List Addr) (Ls : List (List Nat)) : Prop := as.length = Ls.length ∧ ∀ (j : Nat) (a : Addr) (l : List Nat), as[j]? = some a → Ls[j]? = some l → H a = some (.lst (List.map natV l))
theorem RowsAt.mono {H H' : Hp} {as : List Addr} {Ls : List (List Nat)} (h : RowsAt H as Ls) (k : ∀ (j : Nat) (a : Addr), as[j]? = some a → ∀ o, H a = some o → H' a = some o) : RowsAt H' as Ls := ⟨h.1, fun j a l h1 h2 => k j a h1 _ (h.2 j a l h1 h2)⟩
theorem RowsAt.get {H : Hp} {as : List Addr} {Ls : List (List Nat)} (h : RowsAt H as Ls) {j : Nat} (hj : j < Ls.length) : ∃ a, as[j]? = some a ∧ H a = some (.lst ((Ls.getD j []).map natV)) := by
  have h1 : j < as.length := by rw [h.1]; exact hj
  refine ⟨as[j], List.getElem?_eq_getElem h1, h.2 j _ _ (List.getElem?_eq_getElem h1) ?_⟩
  rw [List.getD_eq_getElem?_getD, List.getElem?_eq_getElem hj]
  rfl
theorem RowsAt.push {H : Hp} {as : List Addr} {Ls : List (List Nat)} {a : Addr} {l : List Nat} (h : RowsAt H as Ls) (ha : H a = some (.lst (List.map natV l))) : RowsAt H (as ++ [a]) (Ls ++ [l]) := by
  refine ⟨by rw [List.length_append, List.length_append, h.1]; rfl, fun j (b : Addr) (m : List Nat) h1 h2 => ?_⟩
  by_cases hj : j < as.length
  · rw [List.getElem?_append_left hj] at h1
    rw [List.getElem?_append_left (by rw [← h.1]; exact hj)] at h2
    exact h.2 j b m h1 h2
  · have h3 : j = as.length := by
      have := (List.getElem?_eq_some_iff.mp h1).1
      rw [List.length_append] at this
      simp at this
      omega
    subst h3
    rw [List.getElem?_concat_length] at h1
    rw [h.1, List.getElem?_concat_length] at h2
    cases h1
    cases h2
    exact ha
def But (m : Addr) (H H' : Hp) : Prop := ∀ b o, b ≠ m → H b = some o → H' b = some o
def spAll : Sp := fun vs H Q _ => vs = [.int 20] ∧ ∀ H' a as, Same H H' → H' a = some (.lst (as.map V.ref)) → RowsAt H' as (allR 20) → Q (.ref a) H'
theorem ok__law_all (T : Txt K mg) : FnOk P w K mg base CX0 2 T.f__law_all.f T.f__law_all.fd ["most"] spAll := by
  refine T.f__law_all.F.ok sc__law_all (fun vs H Q E h => ?_) (fun cdv A outer s H vs Q E hr h => ?_)
  · obtain ⟨rfl, _⟩ := h
    rfl
  obtain ⟨rfl, q⟩ := h
  refine ⟨_, (pss_cons (ps_set (i := 1) sc__law_all.nd rfl (.inl rfl) (pe_lst (pa_cons (pe_lst (pa_cons pe_int pa_nil)) pa_nil)))
      (pss_cons (ps_for PassesOwn.never rfl (pi_range2 (by rfl) T.b_range (pa_cons pe_int (pa_cons (pe_op op_add (pv 0) pe_int) pa_nil))) (pg_name (i := 2) sc__law_all.nd rfl (.inl rfl))
        (pss_cons (ps_set (i := 3) sc__law_all.nd rfl (.inl rfl) pe_dnewK)
      (pss_cons (ps_for PassesOwn.never rfl (pi_range2 (by rfl) T.b_range (pa_cons pe_int (pa_cons (pe_op op_add (pv 2) pe_int) pa_nil))) (pg_name (i := 4) sc__law_all.nd rfl (.inl rfl))
        (pss_one (ps_for PassesOwn.never rfl (pi_list (pe_ix ix_seq (pv 1) (pe_op op_sub (pv 2) (pv 4)) (fun _ _ => rfl))) (pg_name (i := 5) sc__law_all.nd rfl (.inl rfl))
        (pss_one (ps_asg pe_bl (pg_sub (pv 3) (pe_call (ok__law_common T) (hr.mono (by first | decide | omega)) (by rfl) T.f__law_common.g T.f__law_common.F.kp T.f__law_common.b .nil pass0 (pa_cons (pv 5) (pa_cons (pv 4) pa_nil))) (set_dict (hu_of hr))))))))
      (pss_one (ps_expr (pe_bm PySem.F.plainAttrs_list PySem.F.slot_list_append PySem.F.type_list_append mt_append (pv 1) (pa_cons (pe_callB (call_sortDK rfl) (by rfl) T.b_sorted (by decide +kernel) (pa_cons (pv 3) pa_nil)) pa_nil)))))))
      (pss_one (ps_ret (pv 1))))), ?_⟩
  walk_at "rd"
  refine ⟨(by show 1 ≤ sizeLine; decide), fun l0 n0 => ⟨(by show 1 ≤ sizeLine; decide), fun f nf => ?_⟩⟩
  have s0 : Same H (upd (upd H l0 (.lst [V.int 1])) f (.lst [V.ref l0])) := (same_upd n0).trans (same_upd nf)
  have hfH : H f = none := fresh_back' (same_upd n0) nf
  refine fr_rng2 ?_
  walk_at "rd"
  refine ⟨_, rfl, _, _, rfl, rfl, _, _, rfl, ⟨by decide, by decide, by decide, by decide⟩, ?_⟩
  rw [show ((20 : Int) + 1 - 1).toNat = 20 by decide]
  refine ForGo.range (fun i σ H' => ∃ (as : List Addr) (y1 y2 y3 y4 : Option V), σ = [some (.int 20), some (.ref f), y1, y2, y3, y4] ∧ Same H H' ∧ H' f = some (.lst (as.map V.ref)) ∧ f ∉ as ∧ RowsAt H' as (allR i)) ⟨[l0], _, _, _, _, rfl, s0, upd_same, ?_, ?_⟩ ?_ ?_
  · intro h
    have := List.mem_singleton.mp h
    rw [this, upd_same] at nf
    cases nf
  · refine ⟨rfl, fun j a l h1 h2 => ?_⟩
    cases j with
    | zero =>
      cases h1
      cases h2
      rw [upd_ne (fun h => by rw [← h, upd_same] at nf; cases nf), upd_same]
      rfl
    | succ j => cases h1
  · rintro i σ H1 hi ⟨as, y1, y2, y3, y4, rfl, s1, hf1, hfa, hra⟩
    walk_at "rd"
    intro r nr
    have hfr : f ≠ r := fun h => by rw [h] at hf1; rw [hf1] at nr; cases nr
    have bt0 : But r H1 (upd H1 r (.dK [])) := fun b o hb h => by rw [upd_ne hb]; exact h
    have hlen := allR_len i
    have hbd := rowK_bound i hi
    refine fr_rng2 ?_
    walk_at "rd"
    refine ⟨_, rfl, _, _, rfl, rfl, _, _, rfl, ⟨by decide, by decide, by omega, by omega⟩, ?_⟩
    rw [show ((1 : Int) + (i : Nat) + 1 - 1).toNat = i + 1 by omega]
    refine ForGo.range (fun m σ H' => ∃ (z1 z2 : Option V), σ = [some (.int 20), some (.ref f), some (.int (1 + (i : Nat))), some (.ref r), z1, z2] ∧ But r H1 H' ∧ H' r = some (.dK (setK (rowK (allR i) (i + 1) m)))) ⟨_, _, rfl, bt0, upd_same⟩ ?_ ?_
    · rintro m σ H2 hm ⟨z1, z2, rfl, b2, hr2⟩
      have hf2 := b2 f _ hfr hf1
      obtain ⟨a, ha1, ha2⟩ := hra.get (j := i - m) (by omega)
      have har : a ≠ r := fun h => by rw [h] at ha2; rw [ha2] at nr; cases nr
      have hll : (allR i).getD (i - m) [] ∈ allR i := by
        rw [List.getD_eq_getElem?_getD, List.getElem?_eq_getElem (show i - m < (allR i).length by omega)]
        exact List.getElem_mem _
      have hlb := allR_bound i hi _ hll
      have hsuc := rowK_succ (allR i) (i + 1) m
      rw [show i + 1 - (m + 1) = i - m by omega] at hsuc
      have hmo := rowK_mono (allR i) (i + 1) (show m + 1 ≤ i + 1 by omega)
      rw [hsuc] at hmo
      generalize (allR i).getD (i - m) [] = l at ha2 hlb hsuc hmo
      refine fr_list ?_
      walk_at "rd"
      refine ⟨_, rfl, _, rfl, _, rfl, _, _, rfl, rfl, ix_row (.inl (SqL.of hf2)) (at_ofA (j := i - m) (by omega) (by rw [List.getElem?_map, ha1]; rfl)) ⟨a, rfl, ⟨_, SqL.of (b2 a _ har ha2)⟩, ?_⟩⟩
      refine ForGo.list (xs := l.map natV) (fun j σ H' => ∃ z2 : Option V, σ = [some (.int 20), some (.ref f), some (.int (1 + (i : Nat))), some (.ref r), some (.int (1 + (m : Nat))), z2] ∧ But r H1 H' ∧ H' r = some (.dK (setK (rowL (rowK (allR i) (i + 1) m) (m + 1) (l.take j))))) ⟨_, rfl, b2, hr2⟩ (fun j σ H' _ ⟨_, _, b3, _⟩ => SqL.of (b3 a _ har ha2)) ?_ ?_
      · rintro j x σ H3 hx ⟨z2, rfl, b3, hr3⟩
        rw [List.getElem?_map] at hx
        cases ej : l[j]? with
        | none => rw [ej] at hx; cases hx
        | some c =>
          rw [ej] at hx
          cases hx
          have hcm := hlb c (List.mem_of_getElem? ej)
          have htk := rowL_take (rowK (allR i) (i + 1) m) (m + 1) l j
          walk_at "rd"
          refine ⟨_, rfl, ⟨_, rfl, _, rfl, c, m + 1, ?_, by omega, by omega, ?_⟩⟩
          · rw [show ((m + 1 : Nat) : Int) = 1 + (m : Int) by omega]
            rfl
          refine ⟨r, _, rfl, .inl ⟨_, Sum.inl ((cmn c (m + 1) : Nat) : Int), hr3, rfl, ?_, rfl⟩, ?_⟩
          · unfold setK
            rw [List.length_map]
            exact Nat.lt_of_le_of_lt (Nat.le_trans htk (Nat.le_trans hmo hbd)) (by decide)
          · refine ⟨_, rfl, fun b o hb h => by rw [upd_ne hb]; exact b3 b o hb h, ?_⟩
            rw [upd_same, putK_set, List.take_succ, ej, rowL_app]
            rfl
      · rintro σ H3 ⟨z2, rfl, b3, hr3⟩
        rw [List.length_map, List.take_length] at hr3
        exact ⟨_, _, rfl, b3, by rw [hsuc]; exact hr3⟩
    · rintro σ H2 ⟨z1, z2, rfl, b2, hr2⟩
      have hf2 := b2 f _ hfr hf1
      walk_at "rd"
      refine ⟨_, rfl, .inl ⟨rfl, _, SqL.of hf2⟩, _, rfl, r, _, (rowK (allR i) (i + 1) (i + 1)).map (fun k : Nat => (k : Int)), rfl, .inl hr2, ?_, fun ys p pm pw np => ?_⟩
      · unfold setK
        rw [List.map_map, List.map_map]
        rfl
      rw [srt_nat pm pw]
      have hpf : f ≠ p := fun h => by rw [h] at hf2; rw [hf2] at np; cases np
      have hbp : ∀ b o, H1 b = some o → b ≠ p := fun b o h hp => by
        by_cases hb : b = r
        · rw [← hp, hb, hr2] at np; cases np
        · have := b2 b o hb h
          rw [hp, np] at this
          cases this
      refine ⟨f, _, _, rfl, rfl, (by rw [upd_ne hpf]; exact hf2), ?_, as ++ [p], _, _, _, _, rfl, ?_, ?_, ?_, ?_⟩
      · rw [List.length_map, hra.1, hlen]
        exact Nat.lt_of_le_of_lt (show i + 1 ≤ 20 by omega) (by decide)
      · intro b o hb
        have hbf : b ≠ f := fun h => by rw [h, hfH] at hb; cases hb
        have hb1 := s1 b o hb
        have hbr : b ≠ r := fun h => by rw [h, nr] at hb1; cases hb1
        rw [upd_ne hbf, upd_ne (hbp b o hb1)]
        exact b2 b o hbr hb1
      · rw [upd_same, List.map_append]
        rfl
      · intro h
        rcases List.mem_append.mp h with h | h
        · exact hfa h
        · exact hpf (List.mem_singleton.mp h)
      · show RowsAt _ _ (allR i ++ [isort (rowK (allR i) (i + 1) (i + 1))])
        refine RowsAt.push (hra.mono fun j a hj o ho => ?_) ?_
        · have haf : a ≠ f := fun h => hfa (h ▸ List.mem_of_getElem? hj)
          have har : a ≠ r := fun h => by rw [h, nr] at ho; cases ho
          rw [upd_ne haf, upd_ne (hbp a o ho)]
          exact b2 a o har ho
        · rw [upd_ne (Ne.symm hpf), upd_same]
  · rintro σ H1 ⟨as, y1, y2, y3, y4, rfl, s1, hf1, hfa, hra⟩
    exact ⟨_, rfl, q _ _ as s1 hf1 hra⟩

/-! ## products of powers -/
def prodK (ps : List (Nat × Nat)) : List (Key × V) := ps.map fun p : Nat × Nat => ((Sum.inl (p.1 : Int) : Key), natV p.2)
theorem any_prod (ps : List (Nat × Nat)) (k : Nat) : ((prodK ps).any fun kv => decide (kv.1 = (Sum.inl (k : Int) : Key))) = ps.any fun p => decide (p.1 = k) := by
  unfold prodK
  rw [List.any_map]
  congr 1
  funext p
  show decide ((Sum.inl (p.1 : Int) : Key) = Sum.inl (k : Int)) = decide (p.1 = k)
  rw [decide_eq_decide]
  exact inl_nat
theorem putK_prod (ps : List (Nat × Nat)) (k v : Nat) : putK (prodK ps) (Sum.inl (k : Int)) (natV v) = prodK (putP ps k v) := by
  unfold putK putP
  rw [any_prod]
  split
  · unfold prodK
    rw [List.map_map, List.map_map]
    refine List.map_congr_left fun p _ => ?_
    show (if (Sum.inl (p.1 : Int) : Key) = Sum.inl (k : Int) then ((Sum.inl (p.1 : Int) : Key), natV v) else _) = ((Sum.inl ((if p.1 = k then (p.1, v) else p).1 : Int) : Key), natV (if p.1 = k then (p.1, v) else p).2)
    by_cases h : p.1 = k
    · rw [if_pos (inl_nat.mpr h), if_pos h]
    · rw [if_neg (fun e => h (inl_nat.mp e)), if_neg h]
  · unfold prodK
    rw [List.map_append]
    rfl
theorem valV_prod (ps : List (Nat × Nat)) (k : Nat) : valV (prodK ps) (Sum.inl (k : Int) : Key) = (getP ps k).map natV := by
  unfold valV getP prodK
  induction ps with
  | nil => rfl
  | cons p ps ih =>
    rw [List.map_cons, List.find?_cons, List.find?_cons]
    by_cases h : p.1 = k
    · rw [decide_eq_true (inl_nat.mpr h), decide_eq_true h]
      rfl
    · rw [decide_eq_false (fun e => h (inl_nat.mp e)), decide_eq_false h]
      exact ih
theorem getP_mem {ps : List (Nat × Nat)} {k : Nat} (h : k ∈ ps.map (·.1)) : ∃ v, getP ps k = some v := by
  unfold getP
  induction ps with
  | nil => cases h
  | cons p ps ih =>
    rw [List.find?_cons]
    by_cases e : p.1 = k
    · rw [decide_eq_true e]
      exact ⟨_, rfl⟩
    · rw [decide_eq_false e]
      rcases List.mem_cons.mp h with h | h
      · exact absurd h.symm e
      · exact ih h
theorem putP_len (ps : List (Nat × Nat)) (k v : Nat) : ps.length ≤ (putP ps k v).length := by
  unfold putP
  split
  · rw [List.length_map]
    exact Nat.le_refl _
  · rw [List.length_append]
    exact Nat.le_add_right _ _
theorem bsw_len (most size v p : Nat) : ∀ (f pw : Nat) (more : List (Nat × Nat)), more.length ≤ (bsw most size v p f pw more).length
  | 0, _, _ => Nat.le_refl _
  | f + 1, pw, more => by
    unfold bsw
    split
    · exact Nat.le_trans (putP_len _ _ _) (bsw_len most size v p f _ _)
    · exact Nat.le_refl _
theorem bss_succ {most : Nat} {best : List (Nat × Nat)} {p i size : Nat} (h : (best.map (·.1))[i]? = some size) : bss most best p (i + 1) = bsw most size ((getP best size).getD 0) p 61 p (bss most best p i) := by
  unfold bss
  rw [List.take_succ, h, List.foldl_append]
  rfl
theorem bss_mono {most : Nat} {best : List (Nat × Nat)} {p : Nat} : ∀ {i j : Nat}, i ≤ j → (bss most best p i).length ≤ (bss most best p j).length := by
  intro i j h
  induction h with
  | refl => exact Nat.le_refl _
  | @step j h ih =>
    refine Nat.le_trans ih ?_
    cases e : (best.map (·.1))[j]? with
    | some size =>
      rw [bss_succ e]
      exact bsw_len ..
    | none =>
      unfold bss
      rw [List.take_succ, e]
      rw [Option.toList_none, List.append_nil]
      exact Nat.le_refl _
theorem bsAt_succ {i p : Nat} (h : primes[i]? = some p) : bsAt (i + 1) = bss 60 (bsAt i) p (bsAt i).length := by
  unfold bsAt
  rw [List.take_succ, h, List.foldl_append]
  rfl
theorem primes_ok : ∀ p ∈ primes, 2 ≤ p ∧ p ≤ 59 := by decide
theorem keys_ok : ∀ i ≤ 17, ∀ q ∈ bsAt i, q.1 ≤ 60 := by decide +kernel
theorem fr_keys {td : TE} {g : TG} {tb : TS} {D : Ends} {σ : L2.St} {H : Hp} (h : td σ H fun x H1 => ∃ d o, x = V.ref d ∧ ((∃ kvs, H1 d = some (.frz o (.dK kvs)) ∧ ForGo (Itk d o kvs) g tb D σ H1) ∨ ∃ kvs, H1 d = some (.frz o (.dT kvs)) ∧ ForGo (Itkt d o kvs) g tb D σ H1)) : tFor (iKeys td) g tb D σ H := h
theorem ForGo.keys {d : Addr} {o : Obj} {kvs : List (Key × V)} {g : TG} {tb : TS} {D : Ends} {σ : L2.St} {H : Hp} (Pv : Nat → L2.St → Hp → Prop) (h0 : Pv 0 σ H) (hl : ∀ i σ H, Pv i σ H → H d = some (.frz o (.dK kvs)))
    (hs : ∀ i k v σ H, kvs[i]? = some (k, v) → Pv i σ H → g (kV k) σ H fun σ2 H2 => tb { D with nx := Pv (i + 1), ct := Pv (i + 1), bk := D.nx } σ2 H2) (hd : ∀ σ H, Pv kvs.length σ H → D.nx σ H) : ForGo (Itk d o kvs) g tb D σ H := by
  refine ⟨fun i m σ H => Pv i σ H ∧ i + m = kvs.length, ⟨kvs.length, h0, by omega⟩, fun i m σ H ⟨p, e⟩ => ?_⟩
  by_cases hi : i < kvs.length
  · refine .inr ⟨⟨hl i σ H p, hi⟩, Pv (i + 1), fun σ' H' p' => ⟨m - 1, by omega, p', by omega⟩, ?_⟩
    rintro x H' ⟨rfl, k, v, h1, rfl⟩
    exact hs i k v σ H' h1 p
  · have e2 : i = kvs.length := by omega
    subst e2
    exact .inl ⟨⟨hl _ σ H p, Nat.le_refl _⟩, hd σ H p⟩
theorem getD_nat (o : Option Nat) : (o.map natV).getD (V.int 0) = natV (o.getD 0) := by cases o <;> rfl
def spBests : Sp := fun vs H Q _ => vs = [.int 60] ∧ ∀ H' a, Same H H' → H' a = some (.dK (prodK (bsAt 17))) → Q (.ref a) H'
theorem ok__law_best (T : Txt K mg) : FnOk P w K mg base CX0 1 T.f__law_best.f T.f__law_best.fd ["most"] spBests := by
  refine T.f__law_best.F.ok sc__law_best (fun vs H Q E h => ?_) (fun cdv A outer s H vs Q E hr h => ?_)
  · obtain ⟨rfl, _⟩ := h
    rfl
  obtain ⟨rfl, q⟩ := h
  refine ⟨_, (pss_cons (ps_set (i := 1) sc__law_best.nd rfl (.inl rfl) (pe_disp (pps_cons pe_int pe_int pps_nil) (by rfl) (by rfl) (fun z => by cases z) (by decide)))
      (pss_cons (ps_for PassesOwn.never rfl (pi_list (pe_lst (pa_cons pe_int (pa_cons pe_int (pa_cons pe_int (pa_cons pe_int (pa_cons pe_int (pa_cons pe_int (pa_cons pe_int (pa_cons pe_int (pa_cons pe_int (pa_cons pe_int (pa_cons pe_int (pa_cons pe_int (pa_cons pe_int (pa_cons pe_int (pa_cons pe_int (pa_cons pe_int (pa_cons pe_int pa_nil))))))))))))))))))) (pg_name (i := 2) sc__law_best.nd rfl (.inl rfl))
        (pss_cons (ps_set (i := 3) sc__law_best.nd rfl (.inl rfl) (pe_callTy call_dictD (by rfl) T.b_dict (by decide +kernel) (pa_cons (pv 1) pa_nil)))
      (pss_cons (ps_lock (ps_for PassesOwn.never rfl (pi_keys (pv 1)) (pg_name (i := 4) sc__law_best.nd rfl (.inl rfl))
        (pss_cons (ps_set (i := 5) sc__law_best.nd rfl (.inl rfl) (pv 2))
      (pss_one (ps_while PassesOwn.never (pt_cmpR op_le (pe_op op_add (pv 4) (pv 5)) (pv 0) (nomark _)) (pss_cons (ps_asg (pe_callB (call_max2 rfl) (by rfl) T.b_max (by decide +kernel) (pa_cons (pe_dget2 (hu_of hr) (pv 3) (pe_op op_add (pv 4) (pv 5)) pe_int ⟨by rfl, by rfl, by rfl, by rfl⟩) (pa_cons (pe_op op_mul (pe_dget (hu_of hr) (pv 1) (pv 4) (fun _ _ => rfl)) (pv 5)) pa_nil))) (pg_sub (pv 3) (pe_op op_add (pv 4) (pv 5)) (set_dict (hu_of hr))))
      (pss_one (ps_set (i := 5) sc__law_best.nd rfl (.inl rfl) (pe_op op_mul (pv 5) (pv 2))))))))))
      (pss_one (ps_set (i := 1) sc__law_best.nd rfl (.inl rfl) (pv 3))))))
      (pss_one (ps_ret (pv 1))))), ?_⟩
  walk_at "rd"
  intro b0 nb0
  refine ⟨upd_same, [(Sum.inl 0, V.int 1)], rfl, by decide, fr_list ?_⟩
  walk_at "rd"
  have eq0 : upd (upd H b0 (.dK [])) b0 (.dK (mergeK [] [((Sum.inl 0 : Key), V.int 1)])) = upd H b0 (.dK (prodK (bsAt 0))) := by
    rw [upd_upd]
    rfl
  rw [eq0]
  refine ⟨(by show 17 ≤ sizeLine; decide), fun l nl => ⟨l, rfl, ⟨_, SqL.of upd_same⟩, ?_⟩⟩
  have sb : Same H (upd H b0 (.dK (prodK (bsAt 0)))) := same_upd nb0
  have hbl : b0 ≠ l := fun h => by rw [← h, upd_same] at nl; cases nl
  refine ForGo.list (xs := primes.map natV) (fun i σ H' => ∃ (b : Addr) (y2 y3 y4 y5 : Option V), σ = [some (.int 60), some (.ref b), y2, y3, y4, y5] ∧ Same H H' ∧ H' b = some (.dK (prodK (bsAt i))) ∧ H' l = some (.lst (primes.map natV)))
    ⟨b0, _, _, _, _, rfl, sb.trans (same_upd nl), by rw [upd_ne hbl, upd_same], by rw [upd_same]; rfl⟩ (fun i σ H' _ ⟨_, _, _, _, _, _, _, _, e⟩ => SqL.of e) ?_ ?_
  · rintro i x σ H1 hx ⟨b, y2, y3, y4, y5, rfl, s1, hb, hl⟩
    rw [List.getElem?_map] at hx
    cases ep : primes[i]? with
    | none => rw [ep] at hx; cases hx
    | some p =>
      rw [ep] at hx
      cases hx
      obtain ⟨hp2, hp59⟩ := primes_ok p (List.mem_of_getElem? ep)
      have hi : i < 17 := (List.getElem?_eq_some_iff.mp ep).1
      have hsuc := bsAt_succ ep
      have hlen := len2 (i + 1) (by omega)
      have hkeys := keys_ok i (by omega)
      rw [hsuc] at hlen
      have hmo : ∀ {j}, j ≤ (bsAt i).length → (bss 60 (bsAt i) p j).length ≤ 61 := fun h => Nat.le_trans (bss_mono h) hlen
      have e0 : bss 60 (bsAt i) p 0 = bsAt i := rfl
      generalize bsAt i = best at hb hsuc hlen hkeys hmo e0
      walk_at "rd"
      refine ⟨_, rfl, b, _, rfl, .inl hb, fun m nm => ?_⟩
      have hmb : b ≠ m := fun h => by rw [h, nm] at hb; cases hb
      have hml : l ≠ m := fun h => by rw [h, nm] at hl; cases hl
      have hlb : l ≠ b := fun h => by rw [h, hb] at hl; cases hl
      refine ⟨b, _, (by rw [upd_ne hmb]; exact hb), (by show True; trivial), fun od => ?_⟩
      have hGb : (upd (upd H1 m (.dK (prodK best))) b (.frz od (.dK (prodK best)))) b = some (.frz od (.dK (prodK best))) := upd_same
      have hGm : (upd (upd H1 m (.dK (prodK best))) b (.frz od (.dK (prodK best)))) m = some (.dK (prodK best)) := by rw [upd_ne (Ne.symm hmb), upd_same]
      have hGo : ∀ a o, a ≠ b → H1 a = some o → (upd (upd H1 m (.dK (prodK best))) b (.frz od (.dK (prodK best)))) a = some o := fun a o h1 h2 => by
        rw [upd_ne h1, upd_ne (fun h => by rw [h, nm] at h2; cases h2)]
        exact h2
      generalize upd (upd H1 m (.dK (prodK best))) b (.frz od (.dK (prodK best))) = G at hGb hGm hGo
      refine fr_keys ⟨_, rfl, b, od, rfl, .inl ⟨_, hGb, ?_⟩⟩
      refine ForGo.keys (fun j σ H' => ∃ (y4 y5 : Option V), σ = [some (.int 60), some (.ref b), some (natV p), some (.ref m), y4, y5] ∧ But m G H' ∧ H' m = some (.dK (prodK (bss 60 best p j)))) ⟨_, _, rfl, fun _ _ _ h => h, by rw [hGm, e0]⟩ (fun j σ H' ⟨_, _, _, bt, _⟩ => bt b _ hmb hGb) ?_ ?_
      · rintro j k v σ H2 hj ⟨y4, y5, rfl, bt, hm⟩
        have hj2 : ∃ q : Nat × Nat, best[j]? = some q ∧ ((Sum.inl (q.1 : Int) : Key), natV q.2) = (k, v) := by
          unfold prodK at hj
          rw [List.getElem?_map] at hj
          cases e : best[j]? with
          | none => rw [e] at hj; cases hj
          | some q => rw [e] at hj; exact ⟨q, rfl, Option.some.inj hj⟩
        obtain ⟨⟨size, bv0⟩, hq, ek⟩ := hj2
        cases ek
        have hjl : j < best.length := (List.getElem?_eq_some_iff.mp hq).1
        have hsz : (best.map (·.1))[j]? = some size := by rw [List.getElem?_map, hq]; rfl
        obtain ⟨bv, hbv⟩ := getP_mem (List.mem_of_getElem? hsz)
        have hs60 : size ≤ 60 := hkeys _ (List.mem_of_getElem? hq)
        have hst := bss_succ (most := 60) (p := p) hsz
        rw [hbv] at hst
        have hl1 := hmo (j := j + 1) hjl
        walk_at "rd"
        refine ⟨_, rfl, ?_⟩
        refine ⟨fun f σ H' => ∃ (pw : Nat) (more : List (Nat × Nat)), σ = [some (.int 60), some (.ref b), some (natV p), some (.ref m), some (.int size), some (natV pw)] ∧ But m G H' ∧ H' m = some (.dK (prodK more)) ∧ bsw 60 size bv p f pw more = bss 60 best p (j + 1) ∧ 2 ^ (61 - f) ≤ pw ∧ f ≤ 61 ∧ 2 ≤ pw, ⟨61, p, _, rfl, bt, hm, hst.symm, (by show 1 ≤ p; omega), Nat.le_refl _, hp2⟩, ?_⟩
        rintro f σ H3 ⟨pw, more, rfl, b3, hm3, hw, hpw, hf, hpw2⟩
        refine ⟨_, rfl, _, rfl, _, _, rfl, rfl, _, rfl, _, _, rfl, rfl, _, rfl, ite2 (fun e => ?_) (fun e => ?_)⟩
        · have hc : size + pw ≤ 60 := by have := of_decide_eq_true e; omega
          cases f with
          | zero => exact absurd hpw (by have : (2 : Nat) ^ (61 - 0) > 61 := by decide
                                         omega)
          | succ f =>
            have hml2 : more.length ≤ 61 := Nat.le_trans (bsw_len 60 size bv p (f + 1) pw more) (by rw [hw]; exact hl1)
            have ey : V.int ((size : Int) + (pw : Int)) = kV (Sum.inl ((size + pw : Nat) : Int)) := by rw [Int.natCast_add]; rfl
            refine ⟨_, fun σ' H' h => ⟨f, Nat.lt_succ_self f, h⟩, ?_⟩
            refine ⟨_, rfl, m, rfl, .inl ⟨_, .inl hm3⟩, _, rfl, _, rfl, _, _, rfl, rfl, (getP more (size + pw)).map natV, .inl ⟨_, _, .inl hm3, ey, (valV_prod _ _).symm⟩, ?_⟩
            rw [getD_nat]
            refine ⟨_, rfl, _, rfl, b, natV bv, rfl, .inl ⟨_, Sum.inl (size : Int), .inr ⟨od, b3 b _ hmb hGb⟩, rfl, by rw [valV_prod, hbv]; rfl⟩, _, rfl, _, _, rfl, rfl, .inr (by omega), _, _, rfl, ?_⟩
            have emx : V.int (if (bv : Int) * (pw : Int) > (((getP more (size + pw)).getD 0 : Nat) : Int) then (bv : Int) * (pw : Int) else (((getP more (size + pw)).getD 0 : Nat) : Int)) = natV (max ((getP more (size + pw)).getD 0) (bv * pw)) := by
              rw [← Int.natCast_mul]
              exact max_nat
            refine ⟨_, rfl, _, rfl, _, rfl, _, _, rfl, rfl, m, _, rfl, .inl ⟨_, Sum.inl ((size + pw : Nat) : Int), hm3, ey, ?_, rfl⟩, ?_⟩
            · unfold prodK
              rw [List.length_map]
              exact Nat.lt_of_le_of_lt hml2 (by decide)
            refine ⟨_, rfl, _, rfl, _, _, rfl, rfl, .inr (by omega), pw * p, putP more (size + pw) (max ((getP more (size + pw)).getD 0) (bv * pw)), ?_, fun a o hb h => by rw [upd_ne hb]; exact b3 a o hb h, ?_, ?_, ?_, by omega, ?_⟩
            · have e3 : V.int ((pw : Int) * (p : Int)) = natV (pw * p) := by unfold natV; rw [Int.natCast_mul]
              show [_, _, _, _, _, some (V.int ((pw : Int) * (p : Int)))] = _
              rw [e3]
            · rw [upd_same]
              show some (HO.dK (putK (prodK more) _ (V.int (if (bv : Int) * (pw : Int) > (((getP more (size + pw)).getD 0 : Nat) : Int) then (bv : Int) * (pw : Int) else (((getP more (size + pw)).getD 0 : Nat) : Int))))) = _
              rw [emx, putK_prod]
            · rw [← hw]
              conv => rhs; unfold bsw
              rw [if_pos hc]
            · calc 2 ^ (61 - f) = 2 ^ (61 - (f + 1)) * 2 := by rw [← Nat.pow_succ]; congr 1; omega
                _ ≤ pw * p := Nat.mul_le_mul hpw hp2
            · calc 2 = 1 * 2 := rfl
                _ ≤ pw * p := Nat.mul_le_mul (by omega) hp2
        · have hc : ¬ size + pw ≤ 60 := fun h => e (decide_eq_true (by omega))
          have e1 : more = bss 60 best p (j + 1) := by
            rw [← hw]
            cases f with
            | zero => rfl
            | succ f => unfold bsw; rw [if_neg hc]
          exact ⟨_, _, rfl, b3, by rw [← e1]; exact hm3⟩
      · rintro σ H2 ⟨y4, y5, rfl, bt, hm⟩
        have hz : (prodK best).length = best.length := by unfold prodK; rw [List.length_map]
        rw [hz, ← hsuc] at hm
        refine ⟨bt b _ hmb hGb, _, rfl, m, _, _, _, _, rfl, fun a o ha => ?_, by rw [upd_ne (Ne.symm hmb)]; exact hm, by rw [upd_ne hlb]; exact bt l _ hml (hGo l _ hlb hl)⟩
        have ha1 := s1 a o ha
        by_cases hab : a = b
        · subst hab
          rw [upd_same, ← hb]
          exact ha1
        · have ham : a ≠ m := fun h => by rw [h, nm] at ha1; cases ha1
          rw [upd_ne hab]
          exact bt a o ham (hGo a o hab ha1)
  · rintro σ H1 ⟨b, y2, y3, y4, y5, rfl, s1, hb, hl⟩
    exact ⟨_, rfl, q _ _ s1 hb⟩

/-! ## the law -/
def natD (ns : List Nat) : Dt := .lst (ns.map fun n : Nat => Dt.int (n : Int))
theorem ats_nats {H : Hp} : ∀ ns : List Nat, Ats K H (ns.map natV) (ns.map fun n : Nat => Dt.int (n : Int))
  | [] => by unfold Ats; rfl
  | n :: ns => by
    show Ats K H (natV n :: ns.map natV) (Dt.int (n : Int) :: ns.map _)
    unfold Ats
    exact ⟨_, _, rfl, by unfold At; rfl, ats_nats ns⟩
theorem at_nats {H : Hp} {a : Addr} {ns : List Nat} (h : H a = some (.lst (ns.map natV))) : At K H (.ref a) (natD ns) := by
  unfold natD At
  exact ⟨a, _, rfl, SqL.of h, ats_nats ns⟩
theorem natD_deep (ns : List Nat) : deep (natD ns) ≤ 1 := by
  unfold natD deep
  have : deepAll (ns.map fun n : Nat => Dt.int (n : Int)) ≤ 0 := deepAll_le fun d hd => by
    obtain ⟨n, _, rfl⟩ := List.mem_map.mp hd
    unfold deep
    exact Nat.le_refl _
  omega
theorem natD_bulk (ns : List Nat) : bulk (natD ns) = ns.length := by
  unfold natD bulk
  induction ns with
  | nil => rfl
  | cons n ns ih =>
    show bulkAll (Dt.int (n : Int) :: ns.map _) = _
    unfold bulkAll
    rw [ih]
    show 0 + 1 + ns.length = _
    rw [List.length_cons]
    omega
theorem natD_fits {ns : List Nat} (h : ∀ n ∈ ns, n ≤ 2 ^ 60) : Fits (natD ns) := by
  unfold natD Fits
  refine fitsAll_of fun d hd => ?_
  obtain ⟨n, hn, rfl⟩ := List.mem_map.mp hd
  unfold Fits
  have := h n hn
  have e : (2 : Nat) ^ 60 < 10 ^ 47 := by decide +kernel
  rw [Int.natAbs_natCast]
  omega
theorem lgr_le {k : Nat} (h : k ≤ 60) : lgr k ≤ 2 ^ 60 := by
  obtain ⟨h1, h2⟩ := lgAt_ok k (k - 1)
  exact Nat.le_trans (h2.getD (by omega)) (Nat.pow_le_pow_right (by decide) h)
theorem ixN_end {α : Type} (xs : List α) (u : α) : ixN (xs ++ [u]).length (-1) = some xs.length := by
  rw [List.length_append]
  show ixN (xs.length + 1) (-1) = _
  unfold ixN
  rw [if_neg (by decide), if_pos (by omega)]
  congr 1
  omega
theorem at_lastN {l : List Nat} (h : l ≠ []) : atI (l.map natV) (-1) = some (natV (l.getLastD 0)) := by
  have e : l = l.dropLast ++ [l.getLast h] := (List.dropLast_concat_getLast h).symm
  have e2 : l.getLastD 0 = l.getLast h := by rw [List.getLastD_eq_getLast?, List.getLast?_eq_some_getLast h]; rfl
  rw [e2]
  conv => lhs; rw [e]
  rw [List.map_append]
  show atI (_ ++ [natV (l.getLast h)]) (-1) = _
  unfold atI
  rw [ixN_end]
  simp
theorem allR_ne : ∀ l ∈ allR 20, l ≠ [] := by decide +kernel
theorem dueL_succ (ps : List (Nat × Nat)) (i : Nat) : dueL ps (i + 1) = dueL ps i ++ [max ((dueL ps i).getLastD 0) ((getP ps (i + 1)).getD 1)] := by
  unfold dueL
  rw [List.range_succ, List.foldl_append]
  rfl
theorem dueL_len (ps : List (Nat × Nat)) : ∀ i, (dueL ps i).length = i + 1
  | 0 => rfl
  | i + 1 => by rw [dueL_succ, List.length_append, dueL_len ps i]; rfl
def spLaw (K : PySem.W.Frag) : Sp := fun vs H Q _ => ∃ (a : Addr) (ns : List Int), vs = [.ref a] ∧ SqL K H a (ns.map V.int) ∧ ns.length ≤ 63 ∧ ∀ H', Q (.bl true) H'
theorem ok_law (T : Txt K mg) : FnG P w K mg base CX0 4 T.f_law.f T.f_law.fd ["script"] (spLaw K) := by
  refine funG T.f_law.F sc_law (fun vs H Q E h => ?_) (fun cdv A outer s H vs Q E hg hr h => ?_)
  · obtain ⟨a, ns, rfl, _⟩ := h
    rfl
  obtain ⟨a, ns, rfl, hs, hlen, q⟩ := h
  refine ⟨_, (pss_cons (ps_setLc (i := 1) (own := [("rounds", 6)]) rfl sc_law.nd rfl rfl (sw_true rfl rfl rfl (by decide +kernel)) (pi_list (pe_call (ok__law_all T) (hr.mono (by first | decide | omega)) (by rfl) T.f__law_all.g T.f__law_all.F.kp T.f__law_all.b .nil pass0 (pa_cons pe_int pa_nil))) (blkOk_by (own := [("rounds", 6)]) (N := N_law) (sc := defScope s_law) (by decide +kernel)) (fun _ _ _ _ _ => (pg_name (i := 6) sc_law.nd rfl (.inl rfl))) (fun _ _ _ _ _ => pts_nil) (fun _ _ _ _ _ => (pe_ix (ix_seqK K) (pv 6) (pe_un un_neg pe_int) (fun _ _ => rfl))))
      (pss_cons (ps_if (pt_not (pt_val (pe_call (ok__law_same T 2) (hr.mono (by first | decide | omega)) (by rfl) T.f__law_same.g T.f__law_same.F.kp T.f__law_same.b .nil pass0 (pa_cons (pe_lc (own := [("kept", 2)]) rfl sc_law.nd (pi_range1 (by rfl) T.b_range (pa_cons pe_int pa_nil)) (blkOk_by (own := [("kept", 2)]) (N := N_law) (sc := defScope s_law) (by decide +kernel)) (fun _ _ _ _ _ => (pg_name (i := 2) sc_law.nd rfl (.inl rfl))) (fun _ _ _ _ _ => pts_nil) (fun _ _ _ _ _ => (pe_call (ok_longest_round T) (hr.mono (by first | decide | omega)) (by rfl) T.f_longest_round.g T.f_longest_round.F.kp T.f_longest_round.b .nil pass0 (pa_cons (pv 2) pa_nil)))) (pa_cons (pv 1) pa_nil))))) (pss_one (ps_ret pe_bl)) pss_nil)
      (pss_cons (ps_set (i := 3) sc_law.nd rfl (.inl rfl) (pe_call (ok__law_best T) (hr.mono (by first | decide | omega)) (by rfl) T.f__law_best.g T.f__law_best.F.kp T.f__law_best.b .nil pass0 (pa_cons pe_int pa_nil)))
      (pss_cons (ps_set (i := 4) sc_law.nd rfl (.inl rfl) (pe_lst (pa_cons pe_int pa_nil)))
      (pss_cons (ps_for PassesOwn.never rfl (pi_range2 (by rfl) T.b_range (pa_cons pe_int (pa_cons pe_int pa_nil))) (pg_name (i := 2) sc_law.nd rfl (.inl rfl))
        (pss_one (ps_expr (pe_bm PySem.F.plainAttrs_list PySem.F.slot_list_append PySem.F.type_list_append mt_append (pv 4) (pa_cons (pe_callB (call_max2 rfl) (by rfl) T.b_max (by decide +kernel) (pa_cons (pe_ix ix_seq (pv 4) (pe_un un_neg pe_int) (fun _ _ => rfl)) (pa_cons (pe_dget2 (hu_of hr) (pv 3) (pv 2) pe_int ⟨by rfl, by rfl, by rfl, by rfl⟩) pa_nil))) pa_nil)))))
      (pss_cons (ps_set (i := 5) sc_law.nd rfl (.inl rfl) (pe_call (ok__law_spring T) (hr.mono (by first | decide | omega)) (by rfl) T.f__law_spring.g T.f__law_spring.F.kp T.f__law_spring.b .nil pass0 (pa_cons (pv 0) pa_nil)))
      (pss_cons (ps_for PassesOwn.never rfl (pi_list (pe_op op_cat (pe_listRg rfl (by rfl) T.b_list (prg_2 (by rfl) T.b_range pe_int pe_int)) (pe_lst (pa_cons (pe_op op_add pe_int (pe_call (ok__law_draw T) (hr.mono (by first | decide | omega)) (by rfl) T.f__law_draw.g T.f__law_draw.F.kp T.f__law_draw.b .nil pass0 (pa_cons (pv 5) (pa_cons pe_int pa_nil)))) (pa_cons pe_int pa_nil))))) (pg_name (i := 2) sc_law.nd rfl (.inl rfl))
        (pss_one (ps_if (pt_not (pt_val (pe_call (ok__law_same T 1) (hr.mono (by first | decide | omega)) (by rfl) T.f__law_same.g T.f__law_same.F.kp T.f__law_same.b .nil pass0 (pa_cons (pe_call (ok_longest_round T) (hr.mono (by first | decide | omega)) (by rfl) T.f_longest_round.g T.f_longest_round.F.kp T.f_longest_round.b .nil pass0 (pa_cons (pv 2) pa_nil)) (pa_cons (pe_ix ix_seq (pv 4) (pv 2) (fun _ _ => rfl)) pa_nil))))) (pss_one (ps_ret pe_bl)) pss_nil)))
      (pss_one (ps_ret (pe_cmpR op_eq (pe_ix ix_seq (pv 4) pe_int (fun _ _ => rfl)) pe_int (nomark _))))))))))), ?_⟩
  walk_at "rd"
  refine lc_lst ⟨rfl, fun H1 ra as s1 hra rows => ⟨ra, rfl, ⟨_, SqL.of hra⟩, fun D nD => ?_⟩⟩
  have hD0 : H D = none := fresh_back' s1 nD
  refine LcGo.list (xs := as.map V.ref) (fun i H' => Same H1 H' ∧ H' D = some (.lst ((((allR 20).take i).map fun l => l.getLastD 0).map natV))) ⟨same_upd nD, upd_same⟩ (fun i H' _ ⟨s2, _⟩ => SqL.of (s2 _ _ hra)) ?_ ?_
  · rintro i x H2 hx ⟨s2, hD⟩
    rw [List.getElem?_map] at hx
    cases ei : as[i]? with
    | none => rw [ei] at hx; cases hx
    | some la =>
      rw [ei] at hx
      cases hx
      have hi : i < (allR 20).length := by rw [← rows.1]; exact (List.getElem?_eq_some_iff.mp ei).1
      have hi2 : (allR 20)[i]? = some (allR 20)[i] := List.getElem?_eq_getElem hi
      have hl := rows.2 i la _ ei hi2
      have hne := allR_ne _ (List.mem_of_getElem? hi2)
      walk_at "rd"
      refine ⟨rfl, _, rfl, _, rfl, ix_row (.inl (SqL.of (s2 _ _ hl))) (at_lastN hne) ⟨_, hD, ?_, same_mut s2 nD, ?_⟩⟩
      · rw [List.length_map, List.length_map, List.length_take]
        exact Nat.lt_of_le_of_lt (show _ ≤ 21 by rw [allR_len]; omega) (by decide)
      · rw [upd_same, List.take_add_one, hi2, List.map_append, List.map_append]
        rfl
  · rintro H2 ⟨s2, hD⟩
    rw [List.length_map, rows.1, List.take_length, allR_eq] at hD
    have s12 : Same H H2 := s1.trans s2
    refine lc_rng1 ?_
    walk_at "rd"
    refine ⟨_, rfl, by decide, by decide, fun F nF => ?_⟩
    rw [show (21 : Int).toNat = 21 by decide]
    refine LcGo.range (fun i H' => Same H2 H' ∧ H' F = some (.lst (((List.range i).map lgr).map natV))) ⟨same_upd nF, upd_same⟩ ?_ ?_
    · rintro i H3 hi ⟨s3, hF⟩
      walk_at "rd"
      refine ⟨rfl, _, rfl, i, (by rw [Int.zero_add]), by omega, fun H4 s4 => ⟨_, s4 _ _ hF, ?_, same_mut (s3.trans s4) nF, ?_⟩⟩
      · rw [List.length_map, List.length_map, List.length_range]
        exact Nat.lt_of_le_of_lt (show i ≤ 21 by omega) (by decide)
      · rw [upd_same, List.range_succ, List.map_append, List.map_append]
        rfl
    · rintro H3 ⟨s3, hF⟩
      have s13 := s12.trans s3
      have hft : Fits (natD ((List.range 21).map lgr)) := natD_fits fun n hn => by
        obtain ⟨k, hk, rfl⟩ := List.mem_map.mp hn
        exact lgr_le (by have := List.mem_range.mp hk; omega)
      refine ⟨_, rfl, .ref F, .ref D, natD ((List.range 21).map lgr), rfl, at_nats hF, at_nats (s3 _ _ hD), by have := natD_deep ((List.range 21).map lgr); omega, hft, (by rw [natD_bulk, List.length_map, List.length_range]; decide), fun H4 s4 => ⟨_, rfl, iteF ?_⟩⟩
      refine ⟨rfl, fun H5 b s5 hb => ⟨(by show 1 ≤ sizeLine; decide), fun d nd => ?_⟩⟩
      have s15 := (s13.trans s4).trans s5
      have hdb : b ≠ d := fun h => by rw [h, nd] at hb; cases hb
      have hbd := len2 17 (Nat.le_refl _)
      have hlg := lgr_eq
      have h30 := due30
      generalize bsAt 17 = best at hb hbd hlg h30
      refine fr_rng2 ?_
      walk_at "rd"
      refine ⟨_, _, rfl, ⟨by decide, by decide, by decide, by decide⟩, ?_⟩
      rw [show ((61 : Int) - 1).toNat = 60 by decide]
      refine ForGo.range (fun i σ H' => ∃ (y2 y5 y6 : Option V), σ = [some (.ref a), some (.ref D), y2, some (.ref b), some (.ref d), y5, y6] ∧ Same H5 H' ∧ H' d = some (.lst ((dueL best i).map natV))) ⟨_, _, _, rfl, same_upd nd, upd_same⟩ ?_ ?_
      · rintro i σ H6 hi ⟨y2, y5, y6, rfl, s6, hd⟩
        have hne : dueL best i ≠ [] := fun h => by have := dueL_len best i; rw [h] at this; cases this
        walk_at "rd"
        refine ⟨_, rfl, .inl ⟨rfl, _, SqL.of hd⟩, _, rfl, _, rfl, ix_row (.inl (SqL.of hd)) (at_lastN hne) ⟨_, rfl, b, rfl, .inl ⟨_, .inl (s6 _ _ hb)⟩, _, rfl, (getP best (i + 1)).map natV, .inl ⟨_, Sum.inl ((i + 1 : Nat) : Int), .inl (s6 _ _ hb), (by rw [show (1 : Int) + (i : Nat) = ((i + 1 : Nat) : Int) by omega]; rfl), (valV_prod _ _).symm⟩, ?_⟩⟩
        have e1 : ((getP best (i + 1)).map natV).getD (V.int 1) = natV ((getP best (i + 1)).getD 1) := by cases getP best (i + 1) <;> rfl
        rw [e1]
        refine ⟨_, _, rfl, d, _, _, rfl, rfl, hd, ?_, _, _, _, rfl, same_mut s6 nd, ?_⟩
        · rw [List.length_map, dueL_len]
          exact Nat.lt_of_le_of_lt (show i + 1 ≤ 61 by omega) (by decide)
        · rw [upd_same, dueL_succ, List.map_append]
          show some (HO.lst (_ ++ [V.int (if (((getP best (i + 1)).getD 1 : Nat) : Int) > (((dueL best i).getLastD 0 : Nat) : Int) then _ else _)])) = _
          rw [max_nat]
          rfl
      · rintro σ H6 ⟨y2, y5, y6, rfl, s6, hd⟩
        rw [hlg] at hd h30
        walk_at "rd"
        refine ⟨_, rfl, a, ns, rfl, (s15.trans s6).seq hs, hlen, fun H7 p s7 np spr => ?_⟩
        have hd7 := s7 _ _ hd
        have hdp : d ≠ p := fun h => by rw [h, np] at hd; cases hd
        refine fr_list ⟨21, 40, rfl, rfl, ⟨by decide, by decide, by decide, by decide, by decide⟩, fun q1 n1 => ?_⟩
        have hpq := spr.ne n1
        have hd8 : (upd H7 q1 (.lst (rgV 21 40))) d = some (.lst (((List.range 61).map lgr).map natV)) := (same_upd n1) _ _ hd7
        refine ⟨_, rfl, p, 16, rfl, spr.same (same_upd n1), by decide, by decide, fun H8 r g8 r0 r16 => ?_⟩
        have hd9 := g8.keep _ _ hdp hd8
        have hq1 := g8.keep _ _ hpq upd_same
        refine ⟨_, _, rfl, rfl, (by show 2 ≤ sizeLine; decide), fun q2 n2 => ?_⟩
        refine ⟨q1, q2, _, _, rfl, rfl, (same_upd n2) _ _ hq1, upd_same, (show 19 + 2 ≤ sizeLine by decide), fun l nl => ?_⟩
        have s9 : Same H8 (upd (upd H8 q2 (.lst [V.int (40 + r), V.int 60])) l (.lst (rgV 21 40 ++ [V.int (40 + r), V.int 60]))) := (same_upd n2).trans (same_upd nl)
        have hd10 := s9 _ _ hd9
        refine ⟨l, rfl, ⟨_, SqL.of upd_same⟩, ?_⟩
        have hl10 : (upd (upd H8 q2 (.lst [V.int (40 + r), V.int 60])) l (.lst (rgV 21 40 ++ [V.int (40 + r), V.int 60]))) l = some (.lst (rgV 21 40 ++ [V.int (40 + r), V.int 60])) := upd_same
        have hks : ∀ x ∈ rgV 21 40 ++ [V.int (40 + r), V.int 60], ∃ k : Nat, k ≤ 60 ∧ x = V.int k := by
          intro x hx
          rcases List.mem_append.mp hx with hx | hx
          · obtain ⟨j, hj, rfl⟩ := List.mem_map.mp hx
            have := List.mem_range.mp hj
            exact ⟨21 + j, by have : ((40 : Int) - 21).toNat = 19 := by decide
                              omega, by rw [Int.natCast_add]; rfl⟩
          · rcases List.mem_cons.mp hx with rfl | hx
            · exact ⟨(40 + r).toNat, by omega, by rw [Int.toNat_of_nonneg (by omega)]⟩
            · rw [List.mem_singleton.mp hx]
              exact ⟨60, by omega, rfl⟩
        generalize rgV 21 40 ++ [V.int (40 + r), V.int 60] = xs at hd10 hl10 hks
        generalize upd (upd H8 q2 (.lst [V.int (40 + r), V.int 60])) l (.lst xs) = H10 at hd10 hl10
        refine ForGo.list (xs := xs) (fun i σ H' => ∃ (y2 y6 : Option V), σ = [some (.ref a), some (.ref D), y2, some (.ref b), some (.ref d), some (.ref p), y6] ∧ Same H10 H') ⟨_, _, rfl, Same.refl _⟩ (fun i σ H' _ ⟨_, _, _, e⟩ => SqL.of (e _ _ hl10)) ?_ ?_
        · rintro i x σ H11 hx ⟨z2, z6, rfl, s11⟩
          obtain ⟨k, hk, rfl⟩ := hks x (List.mem_of_getElem? hx)
          have hkl : k < ((List.range 61).map lgr).length := by rw [List.length_map, List.length_range]; omega
          have egd : ((List.range 61).map lgr).getD k 0 = lgr k := by
            rw [List.getD_eq_getElem?_getD, List.getElem?_map, List.getElem?_range (by omega)]
            rfl
          have hat := at_nat (bs := (List.range 61).map lgr) (z := (k : Int)) rfl hkl
          rw [egd] at hat
          walk_at "rd"
          refine ⟨_, rfl, k, rfl, hk, fun H12 s12 => ⟨_, rfl, _, rfl, ix_row (.inl (SqL.of (s12 _ _ (s11 _ _ hd10)))) hat ?_⟩⟩
          refine ⟨_, _, .int (lgr k : Int), rfl, (by unfold At; rfl), (by unfold At; rfl), (by unfold deep; decide), ?_, (by unfold bulk; decide), fun H13 s13 => ⟨_, rfl, iteF ⟨_, _, rfl, s11.trans (s12.trans s13)⟩⟩⟩
          unfold Fits
          have := lgr_le hk
          have e : (2 : Nat) ^ 60 < 10 ^ 47 := by decide +kernel
          rw [Int.natAbs_natCast]
          omega
        · rintro σ H11 ⟨z2, z6, rfl, s11⟩
          have hat := at_nat (bs := (List.range 61).map lgr) (z := 30) (j := 30) rfl (by rw [List.length_map, List.length_range]; decide)
          rw [h30] at hat
          walk_at "rd"
          refine ⟨_, rfl, ix_row (.inl (SqL.of (s11 _ _ hd10))) hat ⟨rfl, ?_⟩⟩
          exact q _

end
theorem all_mk {l : PySem.W.OpenLaw} {w : World} {K : PySem.W.Frag} {h : Heap} {mg : Str → Option Value} {fa : Addr} (X : K.In h) (G : h.Ns mainGlobals mg) (hfa : mg "law" = some (.ref fa))
    {f0 : Addr} {od0 an0 : Option Addr} {sl0 : Array (Option Value)} {oc0 dc0 pm0 cd0 ct0 : Value} {kV0 : Value}
    {f1 : Addr} {od1 an1 : Option Addr} {sl1 : Array (Option Value)} {oc1 dc1 pm1 cd1 ct1 : Value} {kV1 : Value}
    {f2 : Addr} {od2 an2 : Option Addr} {sl2 : Array (Option Value)} {oc2 dc2 pm2 cd2 ct2 : Value} {kV2 : Value}
    {f3 : Addr} {od3 an3 : Option Addr} {sl3 : Array (Option Value)} {oc3 dc3 pm3 cd3 ct3 : Value} {kV3 : Value}
    {f4 : Addr} {od4 an4 : Option Addr} {sl4 : Array (Option Value)} {oc4 dc4 pm4 cd4 ct4 : Value} {kV4 : Value}
    {f5 : Addr} {od5 an5 : Option Addr} {sl5 : Array (Option Value)} {oc5 dc5 pm5 cd5 ct5 : Value} {kV5 : Value}
    {f6 : Addr} {od6 an6 : Option Addr} {sl6 : Array (Option Value)} {oc6 dc6 pm6 cd6 ct6 : Value} {kV6 : Value}
    {f7 : Addr} {od7 an7 : Option Addr} {sl7 : Array (Option Value)} {oc7 dc7 pm7 cd7 ct7 : Value} {kV7 : Value}
    {f8 : Addr} {od8 an8 : Option Addr} {sl8 : Array (Option Value)} {oc8 dc8 pm8 cd8 ct8 : Value} {kV8 : Value}
    {f9 : Addr} {od9 an9 : Option Addr} {sl9 : Array (Option Value)} {oc9 dc9 pm9 cd9 ct9 : Value} {kV9 : Value}
    {f10 : Addr} {od10 an10 : Option Addr} {sl10 : Array (Option Value)} {oc10 dc10 pm10 cd10 ct10 : Value} {kV10 : Value}
    {f11 : Addr} {od11 an11 : Option Addr} {sl11 : Array (Option Value)} {oc11 dc11 pm11 cd11 ct11 : Value} {kV11 : Value}
    {t_MOST_KEPT : Tok}
    (a0 : PySem.W.nsIn K mainGlobals "is_whole" = some (some (.ref f0))) (l0 : K.lookup f0 = some ⟨oc0, od0, .func (PySem.W.fnOf "is_whole" "is_whole" (defArgs s_is_whole) (defBody s_is_whole) (defScope s_is_whole) .none kV0 dc0 pm0 an0 cd0 ct0), sl0⟩) (c0 : PySem.W.codeIn K cd0 "is_whole" = true) (k0 : PySem.W.keepIn K (.ref f0) = true)
    (a1 : PySem.W.nsIn K mainGlobals "is_within" = some (some (.ref f1))) (l1 : K.lookup f1 = some ⟨oc1, od1, .func (PySem.W.fnOf "is_within" "is_within" (defArgs s_is_within) (defBody s_is_within) (defScope s_is_within) .none kV1 dc1 pm1 an1 cd1 ct1), sl1⟩) (c1 : PySem.W.codeIn K cd1 "is_within" = true) (k1 : PySem.W.keepIn K (.ref f1) = true)
    (a2 : PySem.W.nsIn K mainGlobals "is_prime" = some (some (.ref f2))) (l2 : K.lookup f2 = some ⟨oc2, od2, .func (PySem.W.fnOf "is_prime" "is_prime" (defArgs s_is_prime) (defBody s_is_prime) (defScope s_is_prime) .none kV2 dc2 pm2 an2 cd2 ct2), sl2⟩) (c2 : PySem.W.codeIn K cd2 "is_prime" = true) (k2 : PySem.W.keepIn K (.ref f2) = true)
    (a3 : PySem.W.nsIn K mainGlobals "best_with" = some (some (.ref f3))) (l3 : K.lookup f3 = some ⟨oc3, od3, .func (PySem.W.fnOf "best_with" "best_with" (defArgs s_best_with) (defBody s_best_with) (defScope s_best_with) .none kV3 dc3 pm3 an3 cd3 ct3), sl3⟩) (c3 : PySem.W.codeIn K cd3 "best_with" = true) (k3 : PySem.W.keepIn K (.ref f3) = true)
    (a4 : PySem.W.nsIn K mainGlobals "longest_round" = some (some (.ref f4))) (l4 : K.lookup f4 = some ⟨oc4, od4, .func (PySem.W.fnOf "longest_round" "longest_round" (defArgs s_longest_round) (defBody s_longest_round) (defScope s_longest_round) .none kV4 dc4 pm4 an4 cd4 ct4), sl4⟩) (c4 : PySem.W.codeIn K cd4 "longest_round" = true) (k4 : PySem.W.keepIn K (.ref f4) = true)
    (a5 : PySem.W.nsIn K mainGlobals "_law_spring" = some (some (.ref f5))) (l5 : K.lookup f5 = some ⟨oc5, od5, .func (PySem.W.fnOf "_law_spring" "_law_spring" (defArgs s__law_spring) (defBody s__law_spring) (defScope s__law_spring) .none kV5 dc5 pm5 an5 cd5 ct5), sl5⟩) (c5 : PySem.W.codeIn K cd5 "_law_spring" = true) (k5 : PySem.W.keepIn K (.ref f5) = true)
    (a6 : PySem.W.nsIn K mainGlobals "_law_draw" = some (some (.ref f6))) (l6 : K.lookup f6 = some ⟨oc6, od6, .func (PySem.W.fnOf "_law_draw" "_law_draw" (defArgs s__law_draw) (defBody s__law_draw) (defScope s__law_draw) .none kV6 dc6 pm6 an6 cd6 ct6), sl6⟩) (c6 : PySem.W.codeIn K cd6 "_law_draw" = true) (k6 : PySem.W.keepIn K (.ref f6) = true)
    (a7 : PySem.W.nsIn K mainGlobals "_law_same" = some (some (.ref f7))) (l7 : K.lookup f7 = some ⟨oc7, od7, .func (PySem.W.fnOf "_law_same" "_law_same" (defArgs s__law_same) (defBody s__law_same) (defScope s__law_same) .none kV7 dc7 pm7 an7 cd7 ct7), sl7⟩) (c7 : PySem.W.codeIn K cd7 "_law_same" = true) (k7 : PySem.W.keepIn K (.ref f7) = true)
    (a8 : PySem.W.nsIn K mainGlobals "_law_common" = some (some (.ref f8))) (l8 : K.lookup f8 = some ⟨oc8, od8, .func (PySem.W.fnOf "_law_common" "_law_common" (defArgs s__law_common) (defBody s__law_common) (defScope s__law_common) .none kV8 dc8 pm8 an8 cd8 ct8), sl8⟩) (c8 : PySem.W.codeIn K cd8 "_law_common" = true) (k8 : PySem.W.keepIn K (.ref f8) = true)
    (a9 : PySem.W.nsIn K mainGlobals "_law_all" = some (some (.ref f9))) (l9 : K.lookup f9 = some ⟨oc9, od9, .func (PySem.W.fnOf "_law_all" "_law_all" (defArgs s__law_all) (defBody s__law_all) (defScope s__law_all) .none kV9 dc9 pm9 an9 cd9 ct9), sl9⟩) (c9 : PySem.W.codeIn K cd9 "_law_all" = true) (k9 : PySem.W.keepIn K (.ref f9) = true)
    (a10 : PySem.W.nsIn K mainGlobals "_law_best" = some (some (.ref f10))) (l10 : K.lookup f10 = some ⟨oc10, od10, .func (PySem.W.fnOf "_law_best" "_law_best" (defArgs s__law_best) (defBody s__law_best) (defScope s__law_best) .none kV10 dc10 pm10 an10 cd10 ct10), sl10⟩) (c10 : PySem.W.codeIn K cd10 "_law_best" = true) (k10 : PySem.W.keepIn K (.ref f10) = true)
    (a11 : PySem.W.nsIn K mainGlobals "law" = some (some (.ref f11))) (l11 : K.lookup f11 = some ⟨oc11, od11, .func (PySem.W.fnOf "law" "law" (defArgs s_law) (defBody s_law) (defScope s_law) .none kV11 dc11 pm11 an11 cd11 ct11), sl11⟩) (c11 : PySem.W.codeIn K cd11 "law" = true) (k11 : PySem.W.keepIn K (.ref f11) = true)
    (z_abs : PySem.W.nsIn K mainGlobals "abs" = some none)
    (z_all : PySem.W.nsIn K mainGlobals "all" = some none)
    (z_bool : PySem.W.nsIn K mainGlobals "bool" = some none)
    (z_dict : PySem.W.nsIn K mainGlobals "dict" = some none)
    (z_int : PySem.W.nsIn K mainGlobals "int" = some none)
    (z_isinstance : PySem.W.nsIn K mainGlobals "isinstance" = some none)
    (z_len : PySem.W.nsIn K mainGlobals "len" = some none)
    (z_list : PySem.W.nsIn K mainGlobals "list" = some none)
    (z_max : PySem.W.nsIn K mainGlobals "max" = some none)
    (z_range : PySem.W.nsIn K mainGlobals "range" = some none)
    (z_sorted : PySem.W.nsIn K mainGlobals "sorted" = some none)
    (z_str : PySem.W.nsIn K mainGlobals "str" = some none)
    (z_tuple : PySem.W.nsIn K mainGlobals "tuple" = some none)
    (z_type : PySem.W.nsIn K mainGlobals "type" = some none)
    (v_MOST_KEPT : PySem.W.nsIn K mainGlobals "MOST_KEPT" = some (some (.int 60 t_MOST_KEPT))) :
    ∃ fd : FuncData, (∀ (s : Shared) (v : Value), BindsTo s fd ⟨[v], []⟩ [("script", v)]) ∧ ∀ base : Heap, K.In base → base.Ns mainGlobals mg → Mods base → FnG l.prog w K mg base L2.CX0 4 fa fd ["script"] (spLaw K) := by
  have e := hfa.symm.trans (PySem.W.mg_of X G a11)
  cases e
  have F0 := fun_mk (st := s_is_whole) l0 c0 k0
  have F1 := fun_mk (st := s_is_within) l1 c1 k1
  have F2 := fun_mk (st := s_is_prime) l2 c2 k2
  have F3 := fun_mk (st := s_best_with) l3 c3 k3
  have F4 := fun_mk (st := s_longest_round) l4 c4 k4
  have F5 := fun_mk (st := s__law_spring) l5 c5 k5
  have F6 := fun_mk (st := s__law_draw) l6 c6 k6
  have F7 := fun_mk (st := s__law_same) l7 c7 k7
  have F8 := fun_mk (st := s__law_common) l8 c8 k8
  have F9 := fun_mk (st := s__law_all) l9 c9 k9
  have F10 := fun_mk (st := s__law_best) l10 c10 k10
  have F11 := fun_mk (st := s_law) l11 c11 k11
  let T : Txt K mg := ⟨⟨f0, _, F0, PySem.W.mg_of X G a0, F0.binds (ps := ["thing", "low"]) fun _ _ _ _ _ _ us hl => match us, hl with | [_, _], _ => rfl⟩,
    ⟨f1, _, F1, PySem.W.mg_of X G a1, F1.binds (ps := ["thing", "low", "high"]) fun _ _ _ _ _ _ us hl => match us, hl with | [_, _, _], _ => rfl⟩,
    ⟨f2, _, F2, PySem.W.mg_of X G a2, F2.binds (ps := ["number"]) fun _ _ _ _ _ _ us hl => match us, hl with | [_], _ => rfl⟩,
    ⟨f3, _, F3, PySem.W.mg_of X G a3, F3.binds (ps := ["best", "prime", "many"]) fun _ _ _ _ _ _ us hl => match us, hl with | [_, _, _], _ => rfl⟩,
    ⟨f4, _, F4, PySem.W.mg_of X G a4, F4.binds (ps := ["kept"]) fun _ _ _ _ _ _ us hl => match us, hl with | [_], _ => rfl⟩,
    ⟨f5, _, F5, PySem.W.mg_of X G a5, F5.binds (ps := ["script"]) fun _ _ _ _ _ _ us hl => match us, hl with | [_], _ => rfl⟩,
    ⟨f6, _, F6, PySem.W.mg_of X G a6, F6.binds (ps := ["spring", "many"]) fun _ _ _ _ _ _ us hl => match us, hl with | [_, _], _ => rfl⟩,
    ⟨f7, _, F7, PySem.W.mg_of X G a7, F7.binds (ps := ["found", "due"]) fun _ _ _ _ _ _ us hl => match us, hl with | [_, _], _ => rfl⟩,
    ⟨f8, _, F8, PySem.W.mg_of X G a8, F8.binds (ps := ["one", "other"]) fun _ _ _ _ _ _ us hl => match us, hl with | [_, _], _ => rfl⟩,
    ⟨f9, _, F9, PySem.W.mg_of X G a9, F9.binds (ps := ["most"]) fun _ _ _ _ _ _ us hl => match us, hl with | [_], _ => rfl⟩,
    ⟨f10, _, F10, PySem.W.mg_of X G a10, F10.binds (ps := ["most"]) fun _ _ _ _ _ _ us hl => match us, hl with | [_], _ => rfl⟩,
    ⟨fa, _, F11, PySem.W.mg_of X G a11, F11.binds (ps := ["script"]) fun _ _ _ _ _ _ us hl => match us, hl with | [_], _ => rfl⟩,
    PySem.W.mg_none_of X G z_abs,
    PySem.W.mg_none_of X G z_all,
    PySem.W.mg_none_of X G z_bool,
    PySem.W.mg_none_of X G z_dict,
    PySem.W.mg_none_of X G z_int,
    PySem.W.mg_none_of X G z_isinstance,
    PySem.W.mg_none_of X G z_len,
    PySem.W.mg_none_of X G z_list,
    PySem.W.mg_none_of X G z_max,
    PySem.W.mg_none_of X G z_range,
    PySem.W.mg_none_of X G z_sorted,
    PySem.W.mg_none_of X G z_str,
    PySem.W.mg_none_of X G z_tuple,
    PySem.W.mg_none_of X G z_type,
    ⟨_, PySem.W.mg_of X G v_MOST_KEPT⟩⟩
  exact ⟨T.f_law.fd, fun s v => .of_eq rfl, fun base _ _ hm => ok_law T⟩
end BK
open PySem PySem.W PyProof.Rows
set_option maxRecDepth 100000 in
set_option maxHeartbeats 0 in
theorem PySem.Challenge.cw_blindkeys_k40_longest_rounds_holds : PySem.Challenge.rw_blindkeys_k40_longest_rounds.Holds := by
  w_on; o_law; k_head; (case hw => w_witness2)
  k_fill
  refine BK.walk_G (l := PySem.Challenge.rw_blindkeys_k40_longest_rounds) (n := 63) (k := 4) (x := "script") (C := fun _ => L2.CX0) (sp := fun w => BK.spLaw _) rfl (by decide) (by decide +kernel) rfl ⟨rfl, by decide, by decide⟩ (fun w h Y => PySem.W.kIn_of Y) ?F (fun _ _ a ns hl _ hS => ⟨a, ns, rfl, hS, hl, fun _ => rfl⟩) (fun _ _ _ _ _ h => h)
  case F =>
    intro w mg fa h KX G hmg
    refine' BK.all_mk KX G hmg ?a0 ?l0 ?c0 ?k0 ?a1 ?l1 ?c1 ?k1 ?a2 ?l2 ?c2 ?k2 ?a3 ?l3 ?c3 ?k3 ?a4 ?l4 ?c4 ?k4 ?a5 ?l5 ?c5 ?k5 ?a6 ?l6 ?c6 ?k6 ?a7 ?l7 ?c7 ?k7 ?a8 ?l8 ?c8 ?k8 ?a9 ?l9 ?c9 ?k9 ?a10 ?l10 ?c10 ?k10 ?a11 ?l11 ?c11 ?k11 ?z_abs ?z_all ?z_bool ?z_dict ?z_int ?z_isinstance ?z_len ?z_list ?z_max ?z_range ?z_sorted ?z_str ?z_tuple ?z_type ?v_MOST_KEPT
    (case a0 => k_is)
    (case l0 => k_is)
    (case c0 => k_is)
    (case k0 => k_is)
    (case a1 => k_is)
    (case l1 => k_is)
    (case c1 => k_is)
    (case k1 => k_is)
    (case a2 => k_is)
    (case l2 => k_is)
    (case c2 => k_is)
    (case k2 => k_is)
    (case a3 => k_is)
    (case l3 => k_is)
    (case c3 => k_is)
    (case k3 => k_is)
    (case a4 => k_is)
    (case l4 => k_is)
    (case c4 => k_is)
    (case k4 => k_is)
    (case a5 => k_is)
    (case l5 => k_is)
    (case c5 => k_is)
    (case k5 => k_is)
    (case a6 => k_is)
    (case l6 => k_is)
    (case c6 => k_is)
    (case k6 => k_is)
    (case a7 => k_is)
    (case l7 => k_is)
    (case c7 => k_is)
    (case k7 => k_is)
    (case a8 => k_is)
    (case l8 => k_is)
    (case c8 => k_is)
    (case k8 => k_is)
    (case a9 => k_is)
    (case l9 => k_is)
    (case c9 => k_is)
    (case k9 => k_is)
    (case a10 => k_is)
    (case l10 => k_is)
    (case c10 => k_is)
    (case k10 => k_is)
    (case a11 => k_is)
    (case l11 => k_is)
    (case c11 => k_is)
    (case k11 => k_is)
    (case z_abs => k_is)
    (case z_all => k_is)
    (case z_bool => k_is)
    (case z_dict => k_is)
    (case z_int => k_is)
    (case z_isinstance => k_is)
    (case z_len => k_is)
    (case z_list => k_is)
    (case z_max => k_is)
    (case z_range => k_is)
    (case z_sorted => k_is)
    (case z_str => k_is)
    (case z_tuple => k_is)
    (case z_type => k_is)
    (case v_MOST_KEPT => k_is)
