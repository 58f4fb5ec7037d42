import PyProof.Rows.All
import Wide.All
import OpenK.AllK
import Wide.FinOn
import PyProof.TypeEq
import PyProof.Rows.StrMul
import PyProof.LongRange
import HandS.ForMost
import HandS.Wide
import HandS.WideBits
import HandS.More
import HandS.StrMore
import HandS.NoneIn
import HandS.Flow
import HandS.SortInts
import PyProof.ListStr
import HandS.Defaults
import HandS.Dict
import HandS.Conv
import HandS.Replace
import PyProof.ReprRoads
import PyProof.ReprBulk
import HandS.IsInst
import HandS.Codes
import HandS.Style
import HandS.Walk
import HandS.Iter
import KE.GoesMore
import HandS.Text
import PyProof.Rows.SeqMore
import HandS.FStr
import HandS.RaiseMore
import HandS.Deep
import KE.IntTextLaws
import HandS.SortKw
import KE.DataMinMax
import HandS.TupAny
import KE.KTupSum
import KE.DataCmp
import HandS.ForExc
import HandS.ExcIs
import HandS.ExcValue
import HandS.CallSlots
import HandS.SetFor
import PySem.Challenge.RW_blindkeys_k31_what_is_a_stand
set_option Elab.async false
set_option linter.all false
set_option maxRecDepth 100000
set_option maxHeartbeats 4000000
set_option synthInstance.maxHeartbeats 4000000
set_option synthInstance.maxSize 100000
namespace BK
open PySem PySem.Spec PyProof.Rows L2

/-! ### more rules -/
section
variable {A : Around} {s : Shared}
theorem meta_of {n : String} (h : n ∈ ["int", "str", "bool", "NoneType", "list", "tuple", "dict"]) (s' : Shared) : s'.TypeIs (.type n) "type" := by
  simp only [List.mem_cons, List.not_mem_nil, or_false] at h
  rcases h with rfl | rfl | rfl | rfl | rfl | rfl | rfl
  · exact TypeEq.meta_int s'
  · exact TypeEq.meta_str s'
  · exact TypeEq.meta_bool s'
  · exact TypeEq.meta_NoneType s'
  · exact TypeEq.meta_list s'
  · exact TypeEq.meta_tuple s'
  · exact TypeEq.meta_dict s'
theorem eqAt_ty {a b : String} (ha : a ∈ ["int", "str", "bool", "NoneType", "list", "tuple", "dict"]) (hb : b ∈ ["int", "str", "bool", "NoneType", "list", "tuple", "dict"]) : SeqAt.EqAt A s (.type a) (.type b) (decide (a = b)) := fun prog w E Q h => by
  unfold eqBool
  refine wpAny_holding ?_
  by_cases e : a = b
  · subst e
    rw [decide_eq_true rfl] at h
    refine wpAny_ite_split (fun _ => wpAny_bind (wpAny_rule (wpAny_pure h))) (fun hab => absurd (beq_self_eq_true _) hab)
  · rw [decide_eq_false e] at h
    have hne : (Value.type a == Value.type b) = false := beq_eq_false_iff_ne.mpr fun z => e (Value.type.inj z)
    refine wpAny_ite_split (fun hab => absurd hab (by rw [hne]; exact Bool.false_ne_true)) (fun _ => ?_)
    exact wpAny_bind (TypeEq.eq_type_other (meta_of ha) (meta_of hb) hne (wpAny_truthy_bool h))
end
abbrev knownTy : List String := ["int", "str", "bool", "NoneType", "list", "tuple", "dict"]
/-- type(x) in (list, tuple) -/
def rInTy (K : PySem.W.Frag) : R2 := fun x y H Q => ∃ (a : String) (p : Addr) (ns : List String), x = .ty a ∧ y = .ref p ∧ SqT K H p (ns.map V.ty) ∧ a ∈ knownTy ∧ (∀ n ∈ ns, n ∈ knownTy) ∧ Q (.bl (decide (a ∈ ns))) H
theorem vals_ty : ∀ {ns : List String} {us : List Value}, Vals (ns.map V.ty) us → us = ns.map Value.type
  | [], _, .nil => rfl
  | n :: ns, _, .cons r t => by
    have e := vals_ty t
    cases (show _ = Value.type n from r)
    rw [e, List.map_cons]
section
variable {X : Cx}
theorem op_in_ty : OpR X (compareOp .In) (rInTy X.K) := by
  intro pins s σ H x y v u Q I rx ry h
  obtain ⟨a, p, ns, rfl, rfl, hq, ha, hn, q⟩ := h
  cases (show v = Value.type a from rx)
  cases (show u = Value.ref p from ry)
  obtain ⟨its, r, pl, hz⟩ := I.tuple hq
  have e := vals_ty r
  subst e
  refine SeqAt.in_tupleAt (fun y => match y with | .type n => decide (n = a) | _ => false) pl (fun w hw => ?_) ⟨.bl _, H, I, rfl, ?_⟩
  · simp only [List.mem_toArray, List.mem_map] at hw
    obtain ⟨n, hn1, rfl⟩ := hw
    exact eqAt_ty (hn n hn1) ha
  · have e : (((ns.map Value.type).toArray).any (fun y => match y with | .type n => decide (n = a) | _ => false)) = decide (a ∈ ns) := by
      rw [List.any_toArray, List.any_map, Bool.eq_iff_iff, List.any_eq_true, decide_eq_true_iff]
      constructor
      · rintro ⟨n, h1, h2⟩
        have : n = a := of_decide_eq_true h2
        subst this
        exact h1
      · intro h1
        exact ⟨a, h1, decide_eq_true rfl⟩
    rw [e]
    exact q
/-- text * int -/
def rMulS : R2 := fun x y H Q => ∃ z n, x = .str z ∧ y = .int n ∧ MulOk z n ∧ Q (.str (Txt.mul z n)) H
theorem op_mul_str : OpR X (binaryOp .Mult) rMulS := by
  intro pins s σ H x y v u Q I rx ry h
  obtain ⟨z, n, rfl, rfl, ok, q⟩ := h
  obtain ⟨t, rfl⟩ := rx
  obtain ⟨t', rfl⟩ := ry
  exact SB.mul ok fun t2 k => ⟨.str _, H, I.tok _, ⟨_, rfl⟩, q⟩
theorem OpR.or {f : Value → Value → Sem Value} {r r' : R2} (h : OpR X f r) (h' : OpR X f r') : OpR X f (fun x y H Q => r x y H Q ∨ r' x y H Q) := by
  intro pins s σ H x y v u Q I rx ry hh
  rcases hh with hh | hh
  · exact h pins s σ H x y v u Q I rx ry hh
  · exact h' pins s σ H x y v u Q I rx ry hh
theorem pi_or {tg it : PySem.Expr} {w1 w2 : TI} (h1 : PI X tg it w1) (h2 : PI X tg it w2) : PI X tg it (fun σ H R => w1 σ H R ∨ w2 σ H R) := ⟨fun pins s σ H R I h => by
  rcases h with h | h
  · exact h1.run pins s σ H R I h
  · exact h2.run pins s σ H R I h⟩
theorem pg_or {tg : PySem.Expr} {g1 g2 : TG} (h1 : PG X tg g1) (h2 : PG X tg g2) : PG X tg (fun v σ H Q => g1 v σ H Q ∨ g2 v σ H Q) := ⟨fun pins s σ H v u Q I r h => by
  rcases h with h | h
  · exact h1.run pins s σ H v u Q I r h
  · exact h2.run pins s σ H v u Q I r h⟩
end

/-! ### range(a, b) of any ints -/
section
theorem turn_long {P : Program} {w : World} {K : PySem.W.Frag} {tg : PySem.Expr} (it : Addr) (lo : Int) (n : Nat) : Turn P w K tg (Itr lo n) [it] it (fun i h => IsLongIter h it (lo + (i : Nat) * 1) ((n : Int) - (i : Nat)) 1) where
  mem := by simp
  obj := fun i h st b hb => by
    have e : b = it := by simpa using hb
    subst e
    exact ⟨_, st, fun v z => by
      have z' : Data.fields _ = Data.cell v := z
      cases z'⟩
  keep := fun i h h' st k => k it (by simp) _ st
  item := by
    intro X hP hw hK hc i pins s σ H E I hf st hg
    subst hP hw hK
    obtain ⟨f0, f1, f2, f3, f4, f5⟩ := hf it (by simp)
    have W := Walks.longrange (prog := X.prog) (w := X.w) (I.ok.hd hc) it lo 1 n
    refine W.item i s _ _ hg st fun v h' tk hv st' kk => ?_
    obtain ⟨t, rfl⟩ := hv
    have I1 : Inv X pins σ H { s with heap := h', toks := tk } := I.turned (fun b o hb e => kk b o (by simpa using hb) e) f0 f1 f3 f4 f5
    refine ⟨_, rfl, go_of (s := { s with heap := h', toks := tk }) (n := "longrange_iterator") st' rfl rfl (by decide) ⟨.int (lo + i), H, I1, ⟨t, ?_⟩, ⟨rfl, rfl⟩, st', fun b hb => (hf b hb).1⟩⟩
    rw [Int.mul_one]
  done := by
    intro X hP hw hK hc i pins s σ H E I hf st hg
    subst hP hw hK
    obtain ⟨f0, f1, f2, f3, f4, f5⟩ := hf it (by simp)
    exact wpAny_pyNext_long_end (I.ok.hd hc) st (by have : n ≤ i := hg; omega) fun h' eb => ⟨rfl, I.turned (t' := s.toks) (fun b o hb e => eb b o hb e) f0 f1 f3 f4 f5⟩
  self := fun _ _ _ _ _ st h => wpAny_pyIter_longiter st h
variable {X : Cx} {tg : PySem.Expr}
theorem rsize1 (lo hi : Int) : Builtin.Range.rangeSize lo hi 1 = (((hi - lo).toNat : Nat) : Int) := by
  rw [rangeSize_one]
  split <;> omega
theorem range_itL {pins : List (Addr × Obj)} {σ : L2.St} {H : Hp} {s : Shared} {R : It → Hp → Prop} {E : Value → Shared → Prop} {lo hi : Int} {t u v : Tok} {tk : Nat} (I : Inv X pins σ H s)
    (q : R (Itr lo (hi - lo).toNat) H) : wpAny (model X.prog X.w) X.A (pyIter (.ref s.heap.objs.size)) (PIE X pins σ tg R) E { s with heap := s.heap.push { cls := .type "range", data := .fields #[.int lo t, .int hi u, .int 1 v] }, toks := tk } := by
  have I1 : Inv X pins σ H { s with heap := s.heap.push { cls := .type "range", data := .fields #[.int lo t, .int hi u, .int 1 v] }, toks := tk } := I.kept fun b o e => Heap.get?_push_of_some _ e
  have e1 : lo + ((0 : Nat) : Int) * 1 = lo := by simp
  have e2 : (((hi - lo).toNat : Nat) : Int) - ((0 : Nat) : Int) = Builtin.Range.rangeSize lo hi 1 := by rw [rsize1]; omega
  have hf : ∀ b ∈ [(s.heap.push { cls := .type "range", data := .fields #[.int lo t, .int hi u, .int 1 v] }).objs.size], FpOk X pins H b := fun b hb => by
    have e : b = (s.heap.push { cls := .type "range", data := .fields #[.int lo t, .int hi u, .int 1 v] }).objs.size := by simpa using hb
    subst e
    exact I1.fpOk (Nat.le_refl _) (I1.hok.fresh (Nat.le_refl _))
  cases hs : Builtin.Range.small lo hi 1 with
  | true =>
    refine wpAny_pyIter_range (IsRange.new ..) hs ?_
    refine ⟨(s.heap.push { cls := .type "range", data := .fields #[.int lo t, .int hi u, .int 1 v] }).objs.size, [(s.heap.push { cls := .type "range", data := .fields #[.int lo t, .int hi u, .int 1 v] }).objs.size], _, _, H, rfl,
      I1.kept (t' := tk) fun b o e => Heap.get?_push_of_some _ e, turn_range _ lo (hi - lo).toNat, ?_, hf, q⟩
    show IsRangeIter _ _ (lo + ((0 : Nat) : Int) * 1) ((((hi - lo).toNat : Nat) : Int) - ((0 : Nat) : Int)) 1
    rw [e1, e2]
    exact Heap.get?_push_size _ rfl
  | false =>
    refine wpAny_pyIter_longrange (IsRange.new ..) hs ?_
    refine ⟨(s.heap.push { cls := .type "range", data := .fields #[.int lo t, .int hi u, .int 1 v] }).objs.size, [(s.heap.push { cls := .type "range", data := .fields #[.int lo t, .int hi u, .int 1 v] }).objs.size], _, _, H, rfl,
      I1.kept (t' := tk) fun b o e => Heap.get?_push_of_some _ e, turn_long _ lo (hi - lo).toNat, ?_, hf, q⟩
    show IsLongIter _ _ (lo + ((0 : Nat) : Int) * 1) ((((hi - lo).toNat : Nat) : Int) - ((0 : Nat) : Int)) 1
    rw [e1, e2]
    exact Heap.get?_push_size _ rfl
def iRng2L (ta : TA) : TI := fun σ H R => ta σ H fun vs H1 => ∃ i j : Int, vs = [.int i, .int j] ∧ R (Itr i (j - i).toNat) H1
theorem pi_range2L {a b : PySem.Expr} {ta : TA} {p pos : Pos} (hg : Gl X "range") (hm : X.mg "range" = none) (ha : PA X [a, b] ta) (hs : starEach [a, b] X.env = [(false, eval a X.env), (false, eval b X.env)] := by rfl) (hs2 : starEach [b] X.env = [(false, eval b X.env)] := by rfl) :
    PI X tg (.Call (.Name "range" p) [a, b] [] pos) (iRng2L ta) := by
  refine ⟨fun pins s σ H R I h => ?_⟩
  refine Call_ (ld_blt I hg hm boot_range (PyProof.Rows.callWith_type1 (thn (ha.run pos pins s σ H _ I h) fun us s1 ⟨vs, H1, I1, r1, q1⟩ => ?_) (by rw [hs, hs2]) (by rw [hs2]; rfl)))
  obtain ⟨i, j, e, q⟩ := q1
  subst e
  cases r1 with
  | cons r rr =>
    cases rr with
    | cons r' rr =>
      cases rr
      obtain ⟨t, rfl⟩ := r
      obtain ⟨t', rfl⟩ := r'
      exact call_range_2 (range_itL I1 q)
end

/-! ### rows: a list or a tuple -/
def Row (K : PySem.W.Frag) (H : Hp) (a : Addr) (xs : List V) : Prop := SqL K H a xs ∨ SqT K H a xs
theorem sameT {K : PySem.W.Frag} {H H' : Hp} {a : Addr} {xs : List V} (e : Same H H') (h : SqT K H a xs) : SqT K H' a xs := by
  rcases h with (h | ⟨o, h⟩) | h
  · exact .inl (.inl (e _ _ h))
  · exact .inl (.inr ⟨o, e _ _ h⟩)
  · exact .inr h
theorem Row.same {K : PySem.W.Frag} {H H' : Hp} {a : Addr} {xs : List V} (e : Same H H') (h : Row K H a xs) : Row K H' a xs := h.imp e.seq (sameT e)
theorem same_upd {H : Hp} {p : Addr} {o : HO} (h : H p = none) : Same H (upd H p o) := fun b x e => by
  rw [upd_ne (ne_of_none e h)]
  exact e
section
variable {X : Cx} {pos : Pos}
theorem call_lenA : CallR X (.builtin "len") (fun xs H Q => (∃ p ys, xs = [.ref p] ∧ (SqL X.K H p ys ∨ SqT X.K H p ys) ∧ Q (.int ys.length) H) ∨ (∃ z, xs = [.str z] ∧ z.length ≤ sizeLine ∧ Q (.int z.length) H)) := CallR.or call_len_seq call_len_str
def iSeq (K : PySem.W.Frag) (tl : TE) : TI := fun σ H R => iList K tl σ H R ∨ iTup K tl σ H R
theorem pi_seq {tg l : PySem.Expr} {tl : TE} (hl : PE X l tl) : PI X tg l (iSeq X.K tl) := pi_or (pi_list hl) (pi_tup hl)
def gSeq (K : PySem.W.Frag) (n : Nat) (t : TGs) : TG := fun v σ H Q => gTup K n t v σ H Q ∨ gUnl K n t v σ H Q
theorem pg_seq {es : List PySem.Expr} {k : Nat} {t : TGs} {n : Nat} (hc : X.calm = true) (h : PGs X es t)
    (hn : (assignEach es X.env).length = n := by rfl) (hst : (assignEach es X.env).findIdx? (·.1) = none := by rfl) : PG X (.Tuple es k pos) (gSeq X.K n t) := pg_or (pg_tup hc h hn hst) (pg_unl hc h hn hst)
end
theorem gSeq.row {K : PySem.W.Frag} {n : Nat} {t : TGs} {a : Addr} {xs : List V} {σ : L2.St} {H : Hp} {Q : L2.St → Hp → Prop} (h : Row K H a xs) (hl : xs.length = n) (q : t xs σ H Q) : gSeq K n t (.ref a) σ H Q := by
  rcases h with h | h
  · exact .inr ⟨a, xs, rfl, h, hl, q⟩
  · exact .inl ⟨a, xs, rfl, h, hl, q⟩
/-- for x in (a row that stands in slot i) -/
theorem for_row {K : PySem.W.Frag} {a : Addr} {xs : List V} {g : TG} {tb : TS} {D : Ends} {σ : L2.St} {Hb H : Hp} {j : Nat} (hv : σ[j]? = some (some (.ref a))) (hr : Row K Hb a xs) (hb : Same Hb H) (Pv : Nat → L2.St → Hp → Prop) (h0 : Pv 0 σ H) (hl : ∀ i σ H', i ≤ xs.length → Pv i σ H' → Same Hb H')
    (hs : ∀ i x σ H, xs[i]? = some x → Pv i σ H → g x σ H fun σ2 H2 => tb { D with nx := Pv (i + 1), ct := Pv (i + 1), bk := D.nx } σ2 H2) (hd : ∀ σ H, Pv xs.length σ H → D.nx σ H) :
    tFor (iSeq K (tVar j)) g tb D σ H := by
  rcases hr with hr | hr
  · exact .inl ⟨_, hv, a, rfl, ⟨_, hb.seq hr⟩, for_list (K := K) (a := a) (xs := xs) Pv h0 (fun i σ H' hi p => (hl i σ H' hi p).seq hr) hs hd⟩
  · exact .inr ⟨_, hv, a, rfl, ⟨_, sameT hb hr⟩, for_tup (K := K) (a := a) (xs := xs) Pv h0 (fun i σ H' hi p => sameT (hl i σ H' hi p) hr) hs hd⟩
/-! ### the same rules with the written part named, for use within comprehensions -/
section
variable {X : Cx} {pos : Pos} (K : PySem.W.Frag)
def rLenA (K : PySem.W.Frag) : List V → Hp → VK → Prop := fun xs H Q => (∃ p ys, xs = [.ref p] ∧ (SqL K H p ys ∨ SqT K H p ys) ∧ Q (.int ys.length) H) ∨ (∃ z, xs = [.str z] ∧ z.length ≤ sizeLine ∧ Q (.int z.length) H)
theorem ix_seqK (hK : X.K = K := by rfl) : IxR X (rIx K) := hK ▸ ix_seq
theorem call_lenK (hK : X.K = K := by rfl) : CallR X (.builtin "len") (rLenA K) := hK ▸ call_lenA
theorem pg_tupK {es : List PySem.Expr} {k : Nat} {t : TGs} {n : Nat} (hc : X.calm = true) (h : PGs X es t)
    (hn : (assignEach es X.env).length = n := by rfl) (hst : (assignEach es X.env).findIdx? (·.1) = none := by rfl) (hK : X.K = K := by rfl) : PG X (.Tuple es k pos) (gTup K n t) := hK ▸ pg_tup hc h hn hst
theorem pg_seqK {es : List PySem.Expr} {k : Nat} {t : TGs} {n : Nat} (hc : X.calm = true) (h : PGs X es t)
    (hn : (assignEach es X.env).length = n := by rfl) (hst : (assignEach es X.env).findIdx? (·.1) = none := by rfl) (hK : X.K = K := by rfl) : PG X (.Tuple es k pos) (gSeq K n t) := hK ▸ pg_seq hc h hn hst
end

/-! ### loops and comprehensions, folded -/
def ForGo (J : It) (g : TG) (tb : TS) (D : Ends) (σ : L2.St) (H : Hp) : Prop := ∃ W : Nat → Nat → L2.St → Hp → Prop, (∃ m, W 0 m σ H) ∧ ∀ i m σ H, W i m σ H →
  (J.stop i H ∧ D.nx σ H) ∨ (J.go i H ∧ ∃ N : L2.St → Hp → Prop, (∀ σ' H', N σ' H' → ∃ m', m' < m ∧ W (i + 1) m' σ' H') ∧ ∀ x H', J.yld i H x H' → g x σ H' fun σ2 H2 => tb { D with nx := N, ct := N, bk := D.nx } σ2 H2)
def LcGo (J : It) (g : TG) (tt : TT) (te : TE) (vs : List Nat) (σ : L2.St) (H1 : Hp) (D : Addr) (Q : VK) : Prop := ∃ W : Nat → Nat → Hp → Prop, (∃ m, W 0 m (upd H1 D (.lst []))) ∧ ∀ i m H, W i m H →
  (J.stop i H ∧ Q (.ref D) H) ∨ (J.go i H ∧ ∃ Nx : Hp → Prop, (∀ H', Nx H' → ∃ m', m' < m ∧ W (i + 1) m' H') ∧ ∀ x H', J.yld i H x H' → g x (wipe σ vs) H' fun σ2 H2 => wipe σ2 vs = wipe σ vs ∧ tt σ2 H2 fun b H3 =>
    if b = true then te σ2 H3 fun y H4 => ∃ acc, H4 D = some (.lst acc) ∧ acc.length < sizeLine ∧ Nx (upd H4 D (.lst (acc ++ [y]))) else Nx H3)
section
variable {K : PySem.W.Frag} {ta : TA} {tl : TE} {g : TG} {tb : TS} {D : Ends} {σ : L2.St} {H : Hp} {tt : TT} {te : TE} {vs : List Nat} {Q : VK}
theorem fr_rng1 (h : ta σ H fun us H1 => ∃ j : Int, us = [.int j] ∧ -(2 ^ 62) ≤ j ∧ j < 2 ^ 62 ∧ ForGo (Itr 0 j.toNat) g tb D σ H1) : tFor (iRng1 ta) g tb D σ H := h
theorem fr_rng2 (h : ta σ H fun us H1 => ∃ i j : Int, us = [.int i, .int j] ∧ (-(2 ^ 62) ≤ i ∧ i < 2 ^ 62 ∧ -(2 ^ 62) ≤ j ∧ j < 2 ^ 62) ∧ ForGo (Itr i (j - i).toNat) g tb D σ H1) : tFor (iRng2 ta) g tb D σ H := h
theorem fr_rng2L (h : ta σ H fun us H1 => ∃ i j : Int, us = [.int i, .int j] ∧ ForGo (Itr i (j - i).toNat) g tb D σ H1) : tFor (iRng2L ta) g tb D σ H := h
theorem fr_list (h : tl σ H fun x H1 => ∃ a, x = .ref a ∧ (∃ xs, SqL K H1 a xs) ∧ ForGo (Itl K a) g tb D σ H1) : tFor (iList K tl) g tb D σ H := h
theorem fr_str (h : tl σ H fun v H1 => ∃ x, v = .str x ∧ ForGo (Its x) g tb D σ H1) : tFor (iStr tl) g tb D σ H := h
theorem lc_rng1 (h : ta σ H fun us H1 => ∃ j : Int, us = [.int j] ∧ -(2 ^ 62) ≤ j ∧ j < 2 ^ 62 ∧ ∀ D, H1 D = none → LcGo (Itr 0 j.toNat) g tt te vs σ H1 D Q) : tLc (iRng1 ta) g tt te vs σ H Q := h
theorem lc_rng2 (h : ta σ H fun us H1 => ∃ i j : Int, us = [.int i, .int j] ∧ (-(2 ^ 62) ≤ i ∧ i < 2 ^ 62 ∧ -(2 ^ 62) ≤ j ∧ j < 2 ^ 62) ∧ ∀ D, H1 D = none → LcGo (Itr i (j - i).toNat) g tt te vs σ H1 D Q) : tLc (iRng2 ta) g tt te vs σ H Q := h
theorem lc_rng2L (h : ta σ H fun us H1 => ∃ i j : Int, us = [.int i, .int j] ∧ ∀ D, H1 D = none → LcGo (Itr i (j - i).toNat) g tt te vs σ H1 D Q) : tLc (iRng2L ta) g tt te vs σ H Q := h
theorem lc_lst (h : tl σ H fun x H1 => ∃ a, x = .ref a ∧ (∃ xs, SqL K H1 a xs) ∧ ∀ D, H1 D = none → LcGo (Itl K a) g tt te vs σ H1 D Q) : tLc (iList K tl) g tt te vs σ H Q := h
theorem lc_str (h : tl σ H fun v H1 => ∃ x, v = .str x ∧ ∀ D, H1 D = none → LcGo (Its x) g tt te vs σ H1 D Q) : tLc (iStr tl) g tt te vs σ H Q := h

theorem ForGo.range {lo : Int} {n : Nat} (Pv : Nat → L2.St → Hp → Prop) (h0 : Pv 0 σ H)
    (hs : ∀ i σ H, i < n → Pv i σ H → g (.int (lo + i)) σ H fun σ2 H2 => tb { D with nx := Pv (i + 1), ct := Pv (i + 1), bk := D.nx } σ2 H2) (hd : ∀ σ H, Pv n σ H → D.nx σ H) : ForGo (Itr lo n) g tb D σ H := for_range Pv h0 hs hd
theorem ForGo.list {a : Addr} {xs : List V} (Pv : Nat → L2.St → Hp → Prop) (h0 : Pv 0 σ H) (hl : ∀ i σ H, i ≤ xs.length → Pv i σ H → SqL K H a xs)
    (hs : ∀ i x σ H, xs[i]? = some x → Pv i σ H → g x σ H fun σ2 H2 => tb { D with nx := Pv (i + 1), ct := Pv (i + 1), bk := D.nx } σ2 H2) (hd : ∀ σ H, Pv xs.length σ H → D.nx σ H) : ForGo (Itl K a) g tb D σ H := for_list Pv h0 hl hs hd
theorem LcGo.range {lo : Int} {n : Nat} {D : Addr} (Pv : Nat → Hp → Prop) (h0 : Pv 0 (upd H D (.lst [])))
    (hs : ∀ i H, i < n → Pv i H → g (.int (lo + i)) (wipe σ vs) H fun σ2 H2 => wipe σ2 vs = wipe σ vs ∧ tt σ2 H2 fun b H3 =>
      if b = true then te σ2 H3 fun y H4 => ∃ acc, H4 D = some (.lst acc) ∧ acc.length < sizeLine ∧ Pv (i + 1) (upd H4 D (.lst (acc ++ [y]))) else Pv (i + 1) H3) (hd : ∀ H, Pv n H → Q (.ref D) H) : LcGo (Itr lo n) g tt te vs σ H D Q := L2.lc_range (lo := lo) (n := n) Pv h0 hs hd
theorem LcGo.list {a D : Addr} {xs : List V} (Pv : Nat → Hp → Prop) (h0 : Pv 0 (upd H D (.lst []))) (hl : ∀ i H, i ≤ xs.length → Pv i H → SqL K H a xs)
    (hs : ∀ i x H, xs[i]? = some x → Pv i H → g x (wipe σ vs) H fun σ2 H2 => wipe σ2 vs = wipe σ vs ∧ tt σ2 H2 fun b H3 =>
      if b = true then te σ2 H3 fun y H4 => ∃ acc, H4 D = some (.lst acc) ∧ acc.length < sizeLine ∧ Pv (i + 1) (upd H4 D (.lst (acc ++ [y]))) else Pv (i + 1) H3) (hd : ∀ H, Pv xs.length H → Q (.ref D) H) : LcGo (Itl K a) g tt te vs σ H D Q := L2.lc_list Pv h0 hl hs hd
theorem LcGo.str {z : Str} {D : Addr} (Pv : Nat → Hp → Prop) (h0 : Pv 0 (upd H D (.lst [])))
    (hs : ∀ i c H, z.cps[i]? = some c → Pv i H → g (.str ⟨#[c]⟩) (wipe σ vs) H fun σ2 H2 => wipe σ2 vs = wipe σ vs ∧ tt σ2 H2 fun b H3 =>
      if b = true then te σ2 H3 fun y H4 => ∃ acc, H4 D = some (.lst acc) ∧ acc.length < sizeLine ∧ Pv (i + 1) (upd H4 D (.lst (acc ++ [y]))) else Pv (i + 1) H3) (hd : ∀ H, Pv z.cps.size H → Q (.ref D) H) : LcGo (Its z) g tt te vs σ H D Q := by
  refine ⟨fun i m H => m = z.cps.size - i ∧ i ≤ z.cps.size ∧ Pv i H, ⟨z.cps.size, by simp, Nat.zero_le _, h0⟩, ?_⟩
  rintro i m H ⟨rfl, hi, p⟩
  by_cases hlt : i < z.cps.size
  · refine .inr ⟨hlt, Pv (i + 1), fun H' p' => ⟨z.cps.size - (i + 1), by omega, rfl, hlt, p'⟩, fun x H' y => ?_⟩
    obtain ⟨e, c, hc, rfl⟩ := y
    subst e
    exact hs i c _ hc p
  · have e : i = z.cps.size := by omega
    subst e
    exact .inl ⟨Nat.le_refl _, hd H p⟩
end
end BK

namespace BK
open PySem PySem.Spec PyProof.Rows L2

/-! ## del xs[a:] -/
theorem keep_from {α : Type} (a : Nat) : ∀ (xs : List α) (j n : Nat), xs.length + j ≤ n → (xs.zipIdx j).filterMap (fun (p : α × Nat) => if (decide (a ≤ p.2) && decide (p.2 < n)) = true then none else some p.1) = xs.take (a - j)
  | [], j, n, _ => by simp
  | x :: r, j, n, h => by
    rw [List.zipIdx_cons, List.filterMap_cons]
    have hn : j < n := by simp at h; omega
    have ih := keep_from a r (j + 1) n (by simp at h; omega)
    by_cases hj : a ≤ j
    · simp only [hj, hn, decide_true, Bool.and_self, if_true]
      rw [ih, show a - j = 0 by omega, show a - (j + 1) = 0 by omega]
      simp
    · simp only [hj, decide_false, Bool.false_and, Bool.false_eq_true, if_false]
      rw [ih, show a - j = (a - (j + 1)) + 1 by omega, List.take_succ_cons]
theorem pick_take {sel : Nat → Bool} {a n : Nat} (hs : ∀ k, sel k = (decide (a ≤ k) && decide (k < n))) (its : List Value) (hn : its.length = n) :
    (its.toArray.toList.zipIdx.filterMap fun (x : Value × Nat) => if sel x.2 = true then none else some x.1).toArray = (its.take a).toArray := by
  have e : (fun (x : Value × Nat) => if sel x.2 = true then none else some x.1) = fun (x : Value × Nat) => if (decide (a ≤ x.2) && decide (x.2 < n)) = true then none else some x.1 := funext fun x => by rw [hs]
  rw [e, show its.toArray.toList = its by simp, keep_from a its 0 n (by omega), Nat.sub_zero]
section
variable {prog : Program} {w : World} {A : Around} {E : Value → Shared → Prop} {s : Shared}
set_option maxRecDepth 100000 in
/-- a list's slice without end and step, deleted -/
theorem delItem_from {l sl : Addr} {its : List Value} {n : Nat} {vl : Value} {lo : Option Int} {Q : Unit → Shared → Prop}
    (e : s.heap.get? l = some { cls := .type "list", data := .seq its.toArray n })
    (hs : s.heap.IsSliceOf sl vl .none .none) (pl : IsPart vl lo) (hsz : its.length ≤ sizeLine)
    (h : ∀ f : Array Value → Array Value, f its.toArray = (its.take (HT.sIx its.length 0 lo)).toArray → Q () { s with heap := s.heap.update l (Obj.mapSeq f) }) :
    wpAny (model prog w) A (delItem (.ref l) (.ref sl)) Q E s := by
  have hl : s.heap.IsList l its.toArray := PySem.IsL.isList e
  obtain ⟨os, hos, hcs, hds⟩ := id hs
  have hTs : s.TypeIs (.ref sl) "slice" := ⟨os, hos, hcs⟩
  have hstep : ¬ ((rawPart none == rawInt 0) = true) := Bool.false_ne_true
  refine wpAny_delItem_slot hl.typeIs (by decide) PySem.F.slot_list_delitem ?_
  refine wpAny_call_entry PySem.F.slot_list_delitem hl.typeIs PySem.F.entry_list_delitem ?_ (PySem.F.args_list_delitem_2 _ _)
  refine wpAny_bind (m := slotArgs "__delitem__" 1 _) (wpAny_pure ?_)
  refine wpAny_bind (m := Builtin.List.listSubscript? (.ref sl)) ?_
  unfold Builtin.List.listSubscript?
  refine wpAny_bind (wpAny_specialOf hTs slice_no_index ?_)
  simp only [Option.isNone_none, if_true]
  refine wpAny_pure ?_
  show wpAny _ _ (typeOf (.ref sl) >>= _) _ _ s
  refine wpAny_bind (wpAny_typeOf hTs ?_)
  first
    | rw [if_neg (by decide)]
    | refine PySem.W.KFB.if_not (by decide) ?_
  rw [listSliceParts_eq]
  refine wpAny_bind (wpAny_bind (wpAny_field hos hds (x := .none) rfl (wpAny_bind (wpAny_listPart .none ?_))))
  rw [if_neg hstep]
  refine wpAny_bind (wpAny_field hos hds (x := vl) rfl (wpAny_bind (wpAny_listPart pl ?_)))
  refine wpAny_bind (wpAny_field hos hds (x := .none) rfl (wpAny_bind (wpAny_listPart .none (wpAny_pure ?_))))
  refine wpAny_bind (m := Builtin.List.listItems (.ref l)) ?_
  unfold Builtin.List.listItems
  refine wpAny_bind (wpAny_seqItems e rfl (wpAny_pure ?_))
  have hb : sliceBounds lo none none its.toArray.size = (((HT.sIx its.length 0 lo : Nat) : Int), (((its.length : Nat) : Int), (1 : Int))) := by
    obtain ⟨h1, h2, h3⟩ := slice_bounds lo none its.toArray.size
    have e1 : its.toArray.size = its.length := List.size_toArray
    rw [e1] at h1 h2 h3 ⊢
    have h2' : (sliceBounds lo none none its.length).2.1 = ((its.length : Nat) : Int) := by rw [h2]; rfl
    exact Prod.ext h1 (Prod.ext h2' h3)
  refine wpAny_bind (wpAny_of_eq ((sliceIndices_raw lo none none its.toArray.size (by simp)).trans (congrArg (pure : Int × Int × Int → Sem (Int × Int × Int)) hb)) ?_)
  refine wpAny_bind (m := rule "list.__delitem__.slice") (wpAny_rule ?_)
  have pk := fun (sel : Nat → Bool) hs => pick_take (sel := sel) (a := HT.sIx its.length 0 lo) (n := its.length) hs its rfl
  refine wpAny_bind (m := updateSeq l _) (wpAny_updateSeq (hz := by rw [List.size_toArray]; exact hsz) (_hz' := ?_) e rfl ?_)
  rotate_left
  · refine Nat.le_trans (Nat.le_of_eq (congrArg Array.size (pk _ fun k => ?_))) ?_
    · show (decide (((HT.sIx its.length 0 lo : Nat) : Int) ≤ (k : Int)) && decide ((k : Int) < ((its.length : Nat) : Int)) && (((k : Int) - ((HT.sIx its.length 0 lo : Nat) : Int)) % 1 == 0)) = _
      rw [Int.emod_one]
      simp
    · rw [List.size_toArray, List.length_take]
      omega
  refine wpAny_bind (wpAny_letGo ?_)
  refine wpAny_pure ⟨_, rfl, h _ (pk _ fun k => ?_)⟩
  show (decide (((HT.sIx its.length 0 lo : Nat) : Int) ≤ (k : Int)) && decide ((k : Int) < ((its.length : Nat) : Int)) && (((k : Int) - ((HT.sIx its.length 0 lo : Nat) : Int)) % 1 == 0)) = _
  rw [Int.emod_one]
  simp
end
section
variable {X : Cx}
theorem del_slice {pins : List (Addr × Obj)} {s : Shared} {σ : L2.St} {H : Hp} {l sl : Addr} {xs : List V} {vl : Value} {lo : Option Int} {Q : Unit → Shared → Prop} (I : L2.Inv X pins σ H s)
    (hH : H l = some (.lst xs)) (hs : s.heap.IsSliceOf sl vl .none .none) (pl : IsPart vl lo)
    (h : ∀ s', L2.Inv X pins σ (upd H l (.lst (xs.take (HT.sIx xs.length 0 lo)))) s' → Q () s') :
    wpAny (model X.prog X.w) X.A (delItem (.ref l) (.ref sl)) Q X.xe s := by
  obtain ⟨z, its, n, r, hl, e⟩ := I.lstM hH
  refine delItem_from e hs pl (by omega) fun f hf => h _ ?_
  refine I.lset (its' := its.take (HT.sIx its.length 0 lo)) (t' := s.toks) hH e hf (by rw [← hl]; exact r.take _) ?_
  rw [List.length_take]
  omega
/-- del xs[a:] of a list -/
def tDelS (to : TE) (tl : TO) : TS := fun D σ H => to σ H fun x H1 => tl σ H1 fun lo H2 => ∃ (l : Addr) (xs : List V), x = .ref l ∧ H2 l = some (.lst xs) ∧ D.nx σ (upd H2 l (.lst (xs.take (HT.sIx xs.length 0 lo))))
theorem ps_delS {o : Expr} {lo : Option Expr} {to : TE} {tl : TO} {p2 tpos pos : Pos} (ho : PE X o to) (hl : PO X lo tl) : PS X (.Delete [.Subscript o (.Slice lo none none p2) tpos] pos) (tDelS to tl) := by
  refine ⟨fun pins s σ H D I h => ?_⟩
  refine wpAny_Delete (wpAny_deleteEach_cons (wpAny_delete_Subscript (thn (ho.run pins s σ H _ I h) fun u s1 ⟨x, H1, I1, rx, q1⟩ => ?_)))
  refine wpAny_Slice (thn (hl.run pins s1 σ H1 _ I1 q1) fun vl s2 ⟨l, H2, I2, pl, q2⟩ => ?_)
  rw [evalPart_none]
  refine wpAny_pure ?_
  refine wpAny_pure ?_
  obtain ⟨b, xs, ex, hH, q2⟩ := q2
  subst ex
  cases (show u = Value.ref b from rx)
  have I4 : L2.Inv X pins σ H2 { s2 with heap := s2.heap.push { cls := .type "slice", data := .fields #[vl, .none, .none] } } := I2.kept (t' := s2.toks) fun b ob q => Heap.get?_push_of_some _ q
  exact del_slice I4 hH (Heap.IsSliceOf.new ..) pl fun s3 I3 => wpAny_deleteEach_nil ⟨σ, _, I3, q2⟩
end
end BK

namespace BK
open PySem PySem.Spec PyProof.Rows L2 Builtin Builtin.Str

/-! ### texts as lists of codes -/
def tx (w : List Nat) : Str := ⟨w.toArray⟩
theorem tx_cps (w : List Nat) : (tx w).cps.toList = w := by unfold tx; simp
theorem tx_len (w : List Nat) : (tx w).length = w.length := by unfold tx; simp [Str.length]
theorem tx_inj {a b : List Nat} (h : tx a = tx b) : a = b := by
  have := congrArg (fun z : Str => z.cps.toList) h
  simpa [tx_cps] using this
theorem tx_of (z : Str) : tx z.cps.toList = z := Str.ext' (by unfold tx; simp)
theorem tx_ext {z : Str} {w : List Nat} (h : z.cps.toList = w) : z = tx w := by rw [← h, tx_of]
theorem tx_app (a b : List Nat) : tx a ++ tx b = tx (a ++ b) := tx_ext (by rw [Str.cps_append, Array.toList_append, tx_cps, tx_cps])
theorem tx_eq (a b : List Nat) : (V.str (tx a) = V.str (tx b)) ↔ a = b := ⟨fun h => tx_inj (V.str.inj h), fun h => by rw [h]⟩
theorem tx_one (c : Nat) : tx [c] = ⟨#[c]⟩ := rfl
theorem tx_nil : tx [] = "" := rfl

theorem cut_nn (w : List Nat) (i j : Nat) : cutS (tx w) (some (i : Int)) (some (j : Int)) = tx ((w.drop i).take (j - i)) := by
  refine tx_ext ?_
  unfold cutS
  rw [HT.sIx_nat, HT.sIx_nat, tx_cps, tx_len, List.toList_toArray]
  by_cases hi : i ≤ w.length
  · rw [Nat.min_eq_left hi]
    by_cases hj : j ≤ w.length
    · rw [Nat.min_eq_left hj]
    · rw [Nat.min_eq_right (by omega), List.take_of_length_le (by rw [List.length_drop]; omega), List.take_of_length_le (by rw [List.length_drop]; omega)]
  · rw [Nat.min_eq_right (show w.length ≤ i by omega), List.drop_length, List.drop_eq_nil_of_le (by omega), List.take_nil, List.take_nil]
theorem cut_n_ (w : List Nat) (i : Nat) : cutS (tx w) (some (i : Int)) none = tx (w.drop i) := by
  refine tx_ext ?_
  unfold cutS
  rw [HT.sIx_nat, HT.sIx_none, tx_cps, tx_len, List.toList_toArray]
  by_cases hi : i ≤ w.length
  · rw [Nat.min_eq_left hi, List.take_of_length_le (by rw [List.length_drop]; omega)]
  · rw [Nat.min_eq_right (by omega), List.drop_length, List.drop_eq_nil_of_le (by omega), List.take_nil]
theorem cut__n (w : List Nat) (j : Nat) : cutS (tx w) none (some (j : Int)) = tx (w.take j) := by
  refine tx_ext ?_
  unfold cutS
  rw [HT.sIx_nat, HT.sIx_none, tx_cps, tx_len, List.toList_toArray, List.drop_zero, Nat.sub_zero]
  by_cases hj : j ≤ w.length
  · rw [Nat.min_eq_left hj]
  · rw [Nat.min_eq_right (by omega), List.take_of_length_le (Nat.le_refl _), List.take_of_length_le (by omega)]

theorem foldl_app (l : List (List Nat)) : ∀ acc : Array Nat, ((l.map List.toArray).foldl (· ++ ·) acc).toList = acc.toList ++ l.flatten := by
  induction l with
  | nil => intro acc; simp
  | cons a l ih =>
    intro acc
    rw [List.map_cons, List.foldl_cons, ih, Array.toList_append, List.toList_toArray, List.flatten_cons, List.append_assoc]
theorem mul_tx (w : List Nat) (n : Nat) : Txt.mul (tx w) (n : Int) = tx (List.replicate n w).flatten := by
  refine tx_ext ?_
  unfold Txt.mul
  split
  · have : n = 0 := by omega
    subst this
    rfl
  · split
    · rename_i h1 h2
      rw [Bool.or_eq_true] at h2
      rcases h2 with h2 | h2
      · have : n = 1 := by have := eq_of_beq h2; omega
        subst this
        rw [tx_cps]
        simp
      · have : w = [] := by
          have := eq_of_beq h2
          rw [tx_len] at this
          exact List.eq_nil_of_length_eq_zero this
        subst this
        rw [tx_cps]
        simp
    · rw [Int.toNat_natCast]
      have e : List.replicate n (tx w).cps = (List.replicate n w).map List.toArray := by rw [List.map_replicate]; rfl
      show (List.foldl (· ++ ·) #[] (List.replicate n (tx w).cps)).toList = _
      rw [e, foldl_app]
      simp
theorem mul_ok {w : List Nat} {n : Nat} (L N : Nat) (h : w.length ≤ L) (hn : n ≤ N) (hN : N ≤ 16777216) (hL : L * N ≤ 16777216) : MulOk (tx w) (n : Int) :=
  mulOk_of L N (by rw [tx_len]; exact h) (by omega) (by omega) hN hL

theorem join_go : ∀ (ws : List (List Nat)) (acc : Array Nat), ((ws.map tx).foldl (fun acc p => acc ++ (tx []).cps ++ p.cps) acc).toList = acc.toList ++ ws.flatten
  | [], acc => by simp
  | a :: l, acc => by
    rw [List.map_cons, List.foldl_cons, join_go l, Array.toList_append, Array.toList_append, tx_cps, List.flatten_cons, tx_cps, List.append_nil, List.append_assoc]
theorem join_tx (ws : List (List Nat)) : Txt.join (tx []) (ws.map tx) = tx ws.flatten := by
  refine tx_ext ?_
  show (glued (tx []) (ws.map tx)).cps.toList = _
  unfold glued
  cases ws with
  | nil => rfl
  | cons a l =>
    show (((l.map tx)).foldl (fun acc p => acc ++ (tx []).cps ++ p.cps) (tx a).cps).toList = _
    rw [join_go, tx_cps, List.flatten_cons]

/-! ### how many of one sign -/
theorem sub_one (w : List Nat) (c i : Nat) : (i + (tx [c]).length ≤ (tx w).length ∧ subAt (tx w) (tx [c]) i = true) ↔ w[i]? = some c := by
  have h := StrLaws.subAt_one (tx w) c i
  rw [tx_cps] at h
  exact h
theorem occ_run (w : List Nat) (c : Nat) : ∀ (n i : Nat) (st : Array Nat × Nat), st.2 ≤ i → st.1.size ≤ i → i ≤ w.length →
    (forIn (List.range' i n) st (StrLaws.occBody (tx w) (tx [c]) (tx w).length ((tx w).length + 1))).run.1.size = st.1.size + ((w.drop i).take n).count c
  | 0, i, st, h1, h2, h3 => by simp
  | n + 1, i, st, h1, h2, h3 => by
    rw [List.range'_succ, List.forIn_cons]
    unfold StrLaws.occBody
    have hs := sub_one w c i
    by_cases hc : w[i]? = some c
    · have hq := hs.mpr hc
      have hlt : i < w.length := (List.getElem?_eq_some_iff.mp hc).1
      rw [if_pos ⟨⟨⟨by rw [tx_len]; omega, h1⟩, hq.1⟩, hq.2⟩]
      have ih := occ_run w c n (i + 1) (st.1.push i, i + (tx [c]).length) (by rw [tx_len]; exact Nat.le_refl _) (by rw [Array.size_push]; omega) hlt
      refine ih.trans ?_
      rw [Array.size_push, List.drop_eq_getElem_cons hlt, List.take_succ_cons, List.count_cons]
      have e : w[i] = c := (List.getElem?_eq_some_iff.mp hc).2
      rw [e, beq_self_eq_true, if_pos rfl]
      omega
    · rw [if_neg (fun z => hc (hs.mp ⟨z.1.2, z.2⟩))]
      by_cases hlt : i < w.length
      · have ih := occ_run w c n (i + 1) (st.1, st.2) (by show st.2 ≤ i + 1; omega) (by show st.1.size ≤ i + 1; omega) hlt
        refine ih.trans ?_
        rw [List.drop_eq_getElem_cons hlt, List.take_succ_cons, List.count_cons]
        have e : w[i] ≠ c := fun z => hc (by rw [List.getElem?_eq_getElem hlt, z])
        rw [beq_eq_false_iff_ne.mpr e, if_neg Bool.false_ne_true, Nat.add_zero]
        all_goals rfl
      · have e0 : ∀ (m j : Nat) (st : Array Nat × Nat), w.length ≤ j → (forIn (List.range' j m) st (StrLaws.occBody (tx w) (tx [c]) (tx w).length ((tx w).length + 1))).run.1.size = st.1.size := by
          intro m
          induction m with
          | zero => intro j st _; rfl
          | succ m ih =>
            intro j st hj
            rw [List.range'_succ, List.forIn_cons]
            unfold StrLaws.occBody
            rw [if_neg (fun z => by have := (sub_one w c j).mp ⟨z.1.2, z.2⟩; rw [List.getElem?_eq_none hj] at this; cases this)]
            exact ih (j + 1) (st.1, st.2) (by omega)
        refine (e0 n (i + 1) (st.1, st.2) (by omega)).trans ?_
        rw [List.drop_eq_nil_of_le (by omega), List.take_nil, List.count_nil, Nat.add_zero]
theorem count_tx (w : List Nat) (c : Nat) : Txt.count (tx w) (tx [c]) = (w.count c : Nat) := by
  unfold Txt.count
  rw [StrLaws.occ_eq, Array.length_toList]
  have h := occ_run w c ((tx w).length + 1 - 0) 0 (#[], 0) (Nat.le_refl _) (Nat.le_refl _) (Nat.zero_le _)
  rw [h, List.drop_zero, List.take_of_length_le (by rw [tx_len]; omega)]
  simp

/-! ### strip of signs -/
theorem takeWhile_all {p : Nat → Bool} : ∀ {l : List Nat}, l.all p = true → l.takeWhile p = l
  | [], _ => rfl
  | a :: l, h => by
    rw [List.all_cons, Bool.and_eq_true] at h
    rw [List.takeWhile_cons, if_pos h.1, takeWhile_all h.2]
theorem takeWhile_len {p : Nat → Bool} : ∀ (l : List Nat), l.all p = false → ∃ x, l[(l.takeWhile p).length]? = some x ∧ p x = false
  | [], h => by simp at h
  | a :: l, h => by
    rw [List.takeWhile_cons]
    by_cases ha : p a = true
    · rw [List.all_cons, ha, Bool.true_and] at h
      rw [if_pos ha]
      obtain ⟨x, h1, h2⟩ := takeWhile_len l h
      exact ⟨x, by rw [List.length_cons, List.getElem?_cons_succ]; exact h1, h2⟩
    · rw [if_neg ha]
      exact ⟨a, rfl, Bool.eq_false_iff.mpr ha⟩
theorem strip_iff (w y : List Nat) : (Txt.stripChars (tx w) (tx y) = tx []) ↔ w.all (y.contains ·) = true := by
  have hp : ∀ c, (tx y).cps.contains c = y.contains c := fun c => by unfold tx; simp
  have hp' : (tx y).cps.contains = fun c => y.contains c := funext hp
  unfold Txt.stripChars Txt.stripBy
  rw [hp']
  have hlo : stripLo (fun c => y.contains c) true (tx w) = (w.takeWhile fun c => y.contains c).length := by
    unfold stripLo
    rw [if_pos rfl, tx_cps]
  cases hall : w.all (y.contains ·) with
  | true =>
    have e := takeWhile_all (p := fun c => y.contains c) hall
    rw [e] at hlo
    refine ⟨fun _ => rfl, fun _ => ?_⟩
    by_cases hs : stripSame (fun c => y.contains c) true true (tx w) = true
    · rw [if_pos hs]
      unfold stripSame at hs
      rw [Bool.and_eq_true] at hs
      rw [hlo] at hs
      have : w.length = 0 := eq_of_beq hs.1
      rw [List.eq_nil_of_length_eq_zero this]
    · rw [if_neg hs]
      refine tx_ext ?_
      unfold stripped
      rw [hlo, StrLaws.strSub_toList, tx_cps, List.drop_length, List.take_nil]
  | false =>
    refine ⟨fun h => ?_, fun h => by cases h⟩
    exfalso
    obtain ⟨x, hx, hpx⟩ := takeWhile_len (p := fun c => y.contains c) w hall
    by_cases hs : stripSame (fun c => y.contains c) true true (tx w) = true
    · rw [if_pos hs] at h
      have : w = [] := tx_inj h
      subst this
      simp at hall
    · rw [if_neg hs] at h
      have h2 := congrArg (fun z : Str => z.cps.toList) h
      unfold stripped at h2
      simp only [StrLaws.strSub_toList, tx_cps, hlo] at h2
      have hlt : (w.takeWhile fun c => y.contains c).length < w.length := (List.getElem?_eq_some_iff.mp hx).1
      -- the right end lies behind x
      have hhi : (w.takeWhile fun c => y.contains c).length < stripHi (fun c => y.contains c) true (tx w) (w.takeWhile fun c => y.contains c).length := by
        unfold stripHi
        rw [if_pos rfl, tx_cps, tx_len]
        have hne : ((w.drop (w.takeWhile fun c => y.contains c).length).reverse).all (fun c => y.contains c) = false := by
          rw [List.all_reverse, List.drop_eq_getElem_cons hlt, List.all_cons]
          have e : w[(w.takeWhile fun c => y.contains c).length] = x := (List.getElem?_eq_some_iff.mp hx).2
          rw [e, hpx, Bool.false_and]
        obtain ⟨z, hz, _⟩ := takeWhile_len (p := fun c => y.contains c) _ hne
        have hl2 := (List.getElem?_eq_some_iff.mp hz).1
        rw [List.length_reverse, List.length_drop] at hl2
        omega
      have h3 := congrArg List.length h2
      rw [List.length_take, List.length_drop] at h3
      have hz : ([] : List Nat).length = 0 := rfl
      have hk : 0 < stripHi (fun c => y.contains c) true (tx w) (w.takeWhile fun c => y.contains c).length - (w.takeWhile fun c => y.contains c).length := by omega
      have h4 : (tx ([] : List Nat)).cps.toList.length = 0 := rfl
      have h5 : min (stripHi (fun c => y.contains c) true (tx w) (w.takeWhile fun c => y.contains c).length - (w.takeWhile fun c => y.contains c).length) (w.length - (w.takeWhile fun c => y.contains c).length) = 0 := h3
      omega
end BK

namespace BK
open PySem PySem.Spec PyProof.Rows L2

/-! ## list(text) -/
section
variable {X : Cx}
theorem signs_vals {x : Str} {acc : Array Value} (h : ItemsOf (SignAt x) acc x.cps.size) : Vals (x.cps.toList.map fun c => V.str (tx [c])) acc.toList := by
  refine vals_of_at ?_ fun j y u h1 h2 => ?_
  · rw [List.length_map, Array.length_toList, Array.length_toList, h.1]
  · obtain ⟨c, t, e1, e2⟩ := h.2 j u (by rw [← Array.getElem?_toList]; exact h2)
    rw [List.getElem?_map, Array.getElem?_toList, e1] at h1
    cases h1
    exact ⟨t, e2⟩
theorem call_listS (hc : X.calm = true) : CallR X (.type "list") (fun xs H Q => ∃ x : Str, xs = [.str x] ∧ x.cps.size ≤ sizeLine ∧ ∀ p, H p = none → Q (.ref p) (upd H p (.lst (x.cps.toList.map fun c => V.str (tx [c]))))) := by
  intro pins s σ H xs us Q I r h
  obtain ⟨x, e, hz, q⟩ := h
  subst e
  obtain ⟨u, eu, rx⟩ := vals1 r
  subst eu
  obtain ⟨t, rfl⟩ := rx
  refine call_list_str (I.ok.hd hc) x t (fun h' tk acc c' hk hD hacc => ?_) hz
  refine ⟨.ref s.heap.objs.size, upd H s.heap.objs.size (.lst (x.cps.toList.map fun c => V.str (tx [c]))), I.laid (t' := tk) hk (Nat.le_refl _)
    (show ObjOk X.prog X.w _ _ _ (.lst (x.cps.toList.map fun c => V.str (tx [c]))) from ⟨by rw [List.length_map, Array.length_toList]; exact hz, acc.toList, c', signs_vals hacc, by rw [Array.toArray_toList]; exact hD⟩), rfl, q _ (I.hok.fresh (Nat.le_refl _))⟩
end

/-! ## a dict of the module: texts by texts -/
def dtx (e : DictEntry) : Option (Str × Str) := match e.key, e.val with
  | .str x _, .str y _ => some (x, y)
  | _, _ => none
structure SDict (K : PySem.W.Frag) (w : World) (mg : Str → Option Value) (x : Str) (ps : List (Str × Str)) : Type where
  d : Addr
  es : Array DictEntry
  n : Nat
  g : mg x = some (.ref d)
  k : KDict K w d es n
  e : es.toList.map dtx = ps.map some
theorem dtx_find (z : Str) : ∀ (es : List DictEntry) (ps : List (Str × Str)), es.map dtx = ps.map some →
    (ps.lookup z = none → es.find? (·.key.isStr z) = none ∧ es.any (·.refKey) = false) ∧ (∀ y, ps.lookup z = some y → ∃ e t, es.find? (·.key.isStr z) = some e ∧ e.val = .str y t)
  | [], [], _ => ⟨fun _ => ⟨rfl, rfl⟩, fun y h => by cases h⟩
  | [], _ :: _, h => by cases h
  | _ :: _, [], h => by cases h
  | e :: es, p :: ps, h => by
    obtain ⟨h1, h2⟩ := List.cons.inj h
    have ih := dtx_find z es ps h2
    obtain ⟨a, b⟩ := p
    unfold dtx at h1
    split at h1
    · rename_i x t y t2 k1 k2
      have e3 := Option.some.inj h1
      obtain ⟨rfl, rfl⟩ := Prod.mk.inj e3
      have hk : e.key.isStr z = (x == z) := by rw [k1]; rfl
      have hr : e.refKey = false := by unfold DictEntry.refKey; rw [k1]
      by_cases hz : z = x
      · subst hz
        refine ⟨fun hh => ?_, fun y' hy => ?_⟩
        · rw [List.lookup_cons_self] at hh
          cases hh
        · rw [List.lookup_cons_self] at hy
          cases hy
          refine ⟨e, t2, ?_, k2⟩
          rw [List.find?_cons, hk]
          simp
      · have hb : (z == x) = false := beq_eq_false_iff_ne.mpr hz
        have hb2 : (x == z) = false := beq_eq_false_iff_ne.mpr fun q => hz q.symm
        refine ⟨fun hh => ?_, fun y' hy => ?_⟩
        · rw [List.lookup_cons, hb] at hh
          obtain ⟨i1, i2⟩ := ih.1 hh
          rw [List.find?_cons, hk, hb2, List.any_cons, hr]
          exact ⟨i1, i2⟩
        · rw [List.lookup_cons, hb] at hy
          obtain ⟨e', t', i1, i2⟩ := ih.2 y' hy
          refine ⟨e', t', ?_, i2⟩
          rw [List.find?_cons, hk, hb2]
          exact i1
    · cases h1
theorem SDict.none {K : PySem.W.Frag} {w : World} {mg : Str → Option Value} {x : Str} {ps : List (Str × Str)} (D : SDict K w mg x ps) {z : Str} (h : ps.lookup z = .none) : PySem.W.nsIn K D.d z = some .none := by
  obtain ⟨h1, h2⟩ := (dtx_find z _ _ D.e).1 h
  unfold PySem.W.nsIn
  rw [D.k.at_]
  dsimp only
  rw [h1]
  dsimp only
  rw [h2]
  rfl
theorem SDict.some {K : PySem.W.Frag} {w : World} {mg : Str → Option Value} {x : Str} {ps : List (Str × Str)} (D : SDict K w mg x ps) {z y : Str} (h : ps.lookup z = .some y) : ∃ t, PySem.W.nsIn K D.d z = some (.some (.str y t)) := by
  obtain ⟨e, t, h1, h2⟩ := (dtx_find z _ _ D.e).2 y h
  refine ⟨t, ?_⟩
  unfold PySem.W.nsIn
  rw [D.k.at_]
  dsimp only
  rw [h1]
  dsimp only
  rw [h2]
section
variable {X : Cx} {x : Str} {ps : List (Str × Str)}
theorem pe_sd {pos : Pos} (D : SDict X.K X.w X.mg x ps) (hg : Gl X x) (hd : (x == ("__debug__" : Str)) = false) : PE X (.Name x pos) (tC (.ref D.d)) := pe_glob hg D.g rfl hd
theorem op_in_sd (D : SDict X.K X.w X.mg x ps) : OpR X (compareOp .In) (fun a b H Q => ∃ z : Str, a = .str z ∧ b = .ref D.d ∧ Q (.bl (ps.lookup z).isSome) H) := by
  intro pins s σ H a b v u Q I rx ry h
  obtain ⟨z, e1, e2, q⟩ := h
  cases hl : ps.lookup z with
  | none =>
    rw [hl] at q
    exact op_in_kd D.k pins s σ H a b v u Q I rx ry ⟨z, .none, e1, e2, D.none hl, q⟩
  | some y =>
    rw [hl] at q
    obtain ⟨t, e⟩ := D.some hl
    exact op_in_kd D.k pins s σ H a b v u Q I rx ry ⟨z, _, e1, e2, e, q⟩
def oV : Option Str → V
  | none => .non
  | some y => .str y
def tSGet (d : Addr) (ps : List (Str × Str)) (to te : TE) : TE := fun σ H Q => to σ H fun x H1 => x = .ref d ∧ te σ H1 fun y H2 => ∃ z : Str, y = .str z ∧ Q (oV (ps.lookup z)) H2
theorem pe_sget {o e : Expr} {to te : TE} {apos cpos : Pos} (D : SDict X.K X.w X.mg x ps) (ho : PE X o to) (he : PE X e te) (m : M1 X o "get" apos e cpos) : PE X (.Call (.Attribute o "get" apos) [e] [] cpos) (tSGet D.d ps to te) := by
  refine ⟨fun pins s σ H Q I h => ?_⟩
  refine wpAny_Call_method m.base m.few m.line PySem.F.plainAttrs_dict PySem.F.slot_dict_get PySem.F.type_dict_get (thn (ho.run pins s σ H _ I h) fun u s1 ⟨x, H1, I1, rx, ex, q1⟩ => ?_)
  subst ex
  obtain rfl : u = Value.ref D.d := rx
  have hm0 := PySem.W.mapOf_K (prog := X.prog) (w := X.w) I1.kIn D.k.at_ D.k.lit
  refine ⟨hm0.typeIs, fun b e => ?_, ?_⟩
  · cases e
    exact ⟨_, I1.kIn _ _ D.k.at_, rfl⟩
  rw [m.trees]
  refine wpAny_dict_get1 (knd := PySem.strKind X.prog X.w) D.k.low (thn (he.run pins s1 σ H1 _ I1 q1) fun iv s2 ⟨y, H2, I2, ry, z, ey, q2⟩ => ?_)
  subst ey
  obtain ⟨t, rfl⟩ := ry
  refine ⟨z, _, PySem.strKind_is X.prog X.w z t, PySem.W.mapOf_K (prog := X.prog) (w := X.w) I2.kIn D.k.at_ D.k.lit, ?_⟩
  cases hl : ps.lookup z with
  | none =>
    rw [PySem.W.find_K D.k.at_ (D.none hl)]
    rw [hl] at q2
    exact ⟨.non, H2, I2.tok _, rfl, q2⟩
  | some y =>
    obtain ⟨t2, e⟩ := D.some hl
    rw [PySem.W.find_K D.k.at_ e]
    rw [hl] at q2
    exact ⟨.str y, H2, I2.tok _, ⟨t2, rfl⟩, q2⟩
end
theorem SDict.at {K : PySem.W.Frag} {w : World} {mg : Str → Option Value} {x : Str} {ps : List (Str × Str)} (D : SDict K w mg x ps) {z y : Str} (h : ps.lookup z = .some y) : KDct K w D.d z (.str y) := by
  obtain ⟨t, e⟩ := D.some h
  exact ⟨D.es, D.n, _, D.k.at_, D.k.lit, e, t, rfl⟩
/-! ## a dict of the module: texts by numbers -/
def dti (e : DictEntry) : Option (Str × Int) := match e.key, e.val with
  | .str x _, .int y _ => some (x, y)
  | _, _ => none
structure IDict (K : PySem.W.Frag) (w : World) (mg : Str → Option Value) (x : Str) (ps : List (Str × Int)) : Type where
  d : Addr
  es : Array DictEntry
  n : Nat
  g : mg x = some (.ref d)
  k : KDict K w d es n
  e : es.toList.map dti = ps.map some
theorem dti_find (z : Str) (y : Int) : ∀ (es : List DictEntry) (ps : List (Str × Int)), es.map dti = ps.map some → ps.lookup z = some y → ∃ e t, es.find? (·.key.isStr z) = some e ∧ e.val = .int y t
  | [], [], _, h => by cases h
  | [], _ :: _, h, _ => by cases h
  | _ :: _, [], h, _ => by cases h
  | e :: es, p :: ps, h, hy => by
    obtain ⟨h1, h2⟩ := List.cons.inj h
    obtain ⟨a, b⟩ := p
    unfold dti at h1
    split at h1
    · rename_i x t y' t2 k1 k2
      obtain ⟨rfl, rfl⟩ := Prod.mk.inj (Option.some.inj h1)
      have hk : e.key.isStr z = (x == z) := by rw [k1]; rfl
      by_cases hz : z = x
      · subst hz
        rw [List.lookup_cons_self] at hy
        cases hy
        refine ⟨e, t2, ?_, k2⟩
        rw [List.find?_cons, hk]
        simp
      · have hb : (z == x) = false := beq_eq_false_iff_ne.mpr hz
        have hb2 : (x == z) = false := beq_eq_false_iff_ne.mpr fun q => hz q.symm
        rw [List.lookup_cons, hb] at hy
        obtain ⟨e', t', i1, i2⟩ := dti_find z y es ps h2 hy
        refine ⟨e', t', ?_, i2⟩
        rw [List.find?_cons, hk, hb2]
        exact i1
    · cases h1
theorem IDict.at {K : PySem.W.Frag} {w : World} {mg : Str → Option Value} {x : Str} {ps : List (Str × Int)} (D : IDict K w mg x ps) {z : Str} {y : Int} (h : ps.lookup z = .some y) : KDct K w D.d z (.int y) := by
  obtain ⟨e, t, h1, h2⟩ := dti_find z y _ _ D.e h
  refine ⟨D.es, D.n, .int y t, D.k.at_, D.k.lit, ?_, t, rfl⟩
  unfold PySem.W.nsIn
  rw [D.k.at_]
  dsimp only
  rw [h1]
  dsimp only
  rw [h2]
theorem pe_id {X : Cx} {x : Str} {ps : List (Str × Int)} {pos : Pos} (D : IDict X.K X.w X.mg x ps) (hg : Gl X x) (hd : (x == ("__debug__" : Str)) = false) : PE X (.Name x pos) (tC (.ref D.d)) := pe_glob hg D.g rfl hd
end BK

namespace BK
open PySem PySem.Spec PyProof.Rows L2

/-! ### a word again and again -/
def rep (w : List Nat) (n : Nat) : List Nat := (List.replicate n w).flatten
theorem rep_zero (w : List Nat) : rep w 0 = [] := rfl
theorem rep_succ (w : List Nat) (n : Nat) : rep w (n + 1) = w ++ rep w n := by unfold rep; rw [List.replicate_succ, List.flatten_cons]
theorem rep_len (w : List Nat) : ∀ n, (rep w n).length = n * w.length
  | 0 => by rw [rep_zero]; simp
  | n + 1 => by rw [rep_succ, List.length_append, rep_len w n, Nat.add_mul, Nat.one_mul, Nat.add_comm]
theorem rep_add (w : List Nat) (m : Nat) : ∀ n, rep w (n + m) = rep w n ++ rep w m
  | 0 => by rw [Nat.zero_add, rep_zero, List.nil_append]
  | n + 1 => by rw [show n + 1 + m = (n + m) + 1 by omega, rep_succ, rep_add w m n, rep_succ, List.append_assoc]
theorem rep_get (w : List Nat) : ∀ (n i : Nat), i < n * w.length → (rep w n)[i]? = w[i % w.length]?
  | 0, i, h => by simp at h
  | n + 1, i, h => by
    rw [rep_succ]
    by_cases hi : i < w.length
    · rw [List.getElem?_append_left hi, Nat.mod_eq_of_lt hi]
    · have hn : w.length ≤ i := by omega
      have h2 : i - w.length < n * w.length := by rw [Nat.add_mul, Nat.one_mul] at h; omega
      rw [List.getElem?_append_right hn, rep_get w n _ h2, Nat.mod_eq_sub_mod hn]
theorem rep_count (w : List Nat) (c : Nat) : ∀ n, (rep w n).count c = n * w.count c
  | 0 => by rw [rep_zero]; simp
  | n + 1 => by rw [rep_succ, List.count_append, rep_count w c n, Nat.add_mul, Nat.one_mul, Nat.add_comm]
theorem rep_take {w : List Nat} (hw : w ≠ []) {n m : Nat} (h : m ≤ n * w.length) : (rep w n).take m = rep w (m / w.length) ++ w.take (m % w.length) := by
  have hp : 0 < w.length := List.length_pos_iff.mpr hw
  have hq : m / w.length ≤ n := by
    have := Nat.div_le_div_right (c := w.length) h
    rwa [Nat.mul_div_cancel _ hp] at this
  have e : n = m / w.length + (n - m / w.length) := by omega
  rw [e, rep_add]
  have hm : m = m / w.length * w.length + m % w.length := by rw [Nat.mul_comm]; exact (Nat.div_add_mod m w.length).symm
  rw [List.take_append, rep_len]
  have h1 : List.take m (rep w (m / w.length)) = rep w (m / w.length) := List.take_of_length_le (by rw [rep_len]; exact Nat.div_mul_le_self _ _)
  rw [h1]
  have h2 : m - m / w.length * w.length = m % w.length := by
    omega
  rw [h2]
  congr 1
  have hlt := Nat.mod_lt m hp
  cases hk : n - m / w.length with
  | zero =>
    have h3 : m ≤ m / w.length * w.length := by
      have e3 : n = m / w.length := by omega
      have h4 := h
      rw [e3] at h4
      exact h4
    have h5 : m % w.length = 0 := by omega
    rw [h5, rep_zero, List.take_zero, List.take_zero]
  | succ k => rw [rep_succ, List.take_append_of_le_length (by omega)]
theorem rep_take_count {w : List Nat} (hw : w ≠ []) {n m : Nat} (c : Nat) (h : m ≤ n * w.length) : ((rep w n).take m).count c = w.count c * (m / w.length) + (w.take (m % w.length)).count c := by
  rw [rep_take hw h, List.count_append, rep_count, Nat.mul_comm]

/-! ### texts by pieces -/
abbrev Pcs := List (List Nat × Nat)
def spell (ps : Pcs) : List Nat := (ps.map fun p => rep p.1 p.2).flatten
theorem spell_nil : spell [] = [] := rfl
theorem spell_cons (p : List Nat × Nat) (ps : Pcs) : spell (p :: ps) = rep p.1 p.2 ++ spell ps := by unfold spell; rw [List.map_cons, List.flatten_cons]
theorem spell_app (ps qs : Pcs) : spell (ps ++ qs) = spell ps ++ spell qs := by unfold spell; rw [List.map_append, List.flatten_append]
def size (ps : Pcs) : Nat := (ps.map fun p => p.1.length * p.2).sum
theorem spell_len (ps : Pcs) : (spell ps).length = size ps := by
  induction ps with
  | nil => rfl
  | cons p ps ih => rw [spell_cons, List.length_append, ih, rep_len]; unfold size; rw [List.map_cons, List.sum_cons, Nat.mul_comm]
theorem size_cons (p : List Nat × Nat) (ps : Pcs) : size (p :: ps) = p.1.length * p.2 + size ps := rfl
theorem size_take_succ (ps : Pcs) : ∀ {i : Nat} {p}, ps[i]? = some p → size (ps.take (i + 1)) = size (ps.take i) + p.1.length * p.2 := by
  induction ps with
  | nil => intro i p h; simp at h
  | cons q ps ih =>
    intro i p h
    cases i with
    | zero =>
      have e : q = p := by simpa using h
      subst e
      simp [size]
    | succ i =>
      have := ih (i := i) (p := p) (by simpa using h)
      rw [List.take_succ_cons, size_cons, this, List.take_succ_cons, size_cons, Nat.add_assoc]
theorem size_take_le (ps : Pcs) (i : Nat) : size (ps.take i) ≤ size ps := by
  induction ps generalizing i with
  | nil => simp
  | cons q ps ih =>
    cases i with
    | zero => simp [size]
    | succ i => rw [List.take_succ_cons, size_cons, size_cons]; have := ih i; omega

/-- small letters -/
def alpha : List Nat := [97, 98, 99, 100, 101, 102, 103, 104, 105, 106, 107, 108, 109, 110, 111, 112, 113, 114, 115, 116, 117, 118, 119, 120, 121, 122]
theorem tx_alpha : tx alpha = ("abcdefghijklmnopqrstuvwxyz" : Str) := by decide +kernel
def Plain (w : List Nat) : Prop := w.all (alpha.contains ·) = true
def Word (w : List Nat) : Prop := Plain w ∧ w ≠ [] ∧ w.length ≤ 60
structure Good (ps : Pcs) : Prop where
  few : ps.length ≤ 40
  ok : ∀ p ∈ ps, Word p.1 ∧ 1 ≤ p.2
  all : size ps ≤ 10 ^ 30

/-! ### things -/
inductive Dt where
  | non | bl (b : Bool) | int (i : Int) | str (w : List Nat) | lst (xs : List Dt) | tup (xs : List Dt) | dic
mutual
def At (K : PySem.W.Frag) (H : Hp) : V → Dt → Prop
  | v, .non => v = .non
  | v, .bl b => v = .bl b
  | v, .int i => v = .int i
  | v, .str w => v = .str (tx w) ∧ w.length ≤ 1000000
  | v, .lst ds => ∃ a xs, v = .ref a ∧ SqL K H a xs ∧ Ats K H xs ds
  | v, .tup ds => ∃ a xs, v = .ref a ∧ SqT K H a xs ∧ Ats K H xs ds
  | v, .dic => ∃ a, v = .ref a ∧ H a = some (.dK [])
def Ats (K : PySem.W.Frag) (H : Hp) : List V → List Dt → Prop
  | vs, [] => vs = []
  | vs, d :: ds => ∃ v us, vs = v :: us ∧ At K H v d ∧ Ats K H us ds
end
section
variable {K : PySem.W.Frag} {H H' : Hp}
mutual
theorem At.same (e : Same H H') : ∀ (d : Dt) (v : V), At K H v d → At K H' v d
  | .non, v, h => by unfold At at h ⊢; exact h
  | .bl _, v, h => by unfold At at h ⊢; exact h
  | .int _, v, h => by unfold At at h ⊢; exact h
  | .str _, v, h => by unfold At at h ⊢; exact h
  | .lst ds, v, h => by
    unfold At at h ⊢
    obtain ⟨a, xs, rfl, h1, h2⟩ := h
    exact ⟨a, xs, rfl, e.seq h1, Ats.same e ds xs h2⟩
  | .tup ds, v, h => by
    unfold At at h ⊢
    obtain ⟨a, xs, rfl, h1, h2⟩ := h
    exact ⟨a, xs, rfl, sameT e h1, Ats.same e ds xs h2⟩
  | .dic, v, h => by
    unfold At at h ⊢
    obtain ⟨a, rfl, h1⟩ := h
    exact ⟨a, rfl, e _ _ h1⟩
theorem Ats.same (e : Same H H') : ∀ (ds : List Dt) (vs : List V), Ats K H vs ds → Ats K H' vs ds
  | [], vs, h => by unfold Ats at h ⊢; exact h
  | d :: ds, vs, h => by
    unfold Ats at h ⊢
    obtain ⟨v, us, rfl, h1, h2⟩ := h
    exact ⟨v, us, rfl, At.same e d v h1, Ats.same e ds us h2⟩
end
theorem Ats.len : ∀ {ds : List Dt} {vs : List V}, Ats K H vs ds → vs.length = ds.length
  | [], vs, h => by unfold Ats at h; subst h; rfl
  | d :: ds, vs, h => by
    unfold Ats at h
    obtain ⟨v, us, rfl, _, h2⟩ := h
    rw [List.length_cons, List.length_cons, h2.len]
theorem Ats.get : ∀ {ds : List Dt} {vs : List V} {i : Nat} {d : Dt}, Ats K H vs ds → ds[i]? = some d → ∃ v, vs[i]? = some v ∧ At K H v d
  | [], vs, i, d, h, e => by simp at e
  | c :: ds, vs, i, d, h, e => by
    unfold Ats at h
    obtain ⟨v, us, rfl, h1, h2⟩ := h
    cases i with
    | zero =>
      have : c = d := by simpa using e
      subst this
      exact ⟨v, rfl, h1⟩
    | succ i => exact h2.get (by simpa using e)
end
/-- the type's name -/
def Dt.ty : Dt → String
  | .non => "NoneType"
  | .bl _ => "bool"
  | .int _ => "int"
  | .str _ => "str"
  | .lst _ => "list"
  | .tup _ => "tuple"
  | .dic => "dict"
theorem ty_known (d : Dt) : d.ty ∈ knownTy := by cases d <;> simp [Dt.ty, knownTy]
theorem At.ty {K : PySem.W.Frag} {H : Hp} {v : V} {d : Dt} (h : At K H v d) : TyB K H v d.ty := by
  cases d with
  | non => unfold At at h; subst h; exact .non
  | bl b => unfold At at h; subst h; exact .bl b
  | int i => unfold At at h; subst h; exact .int i
  | str w => unfold At at h; obtain ⟨rfl, _⟩ := h; exact .str _
  | lst ds => unfold At at h; obtain ⟨a, xs, rfl, h1, _⟩ := h; exact .lst h1
  | tup ds => unfold At at h; obtain ⟨a, xs, rfl, h1, _⟩ := h; exact .tup h1
  | dic => unfold At at h; obtain ⟨a, rfl, h1⟩ := h; exact .dK h1
/-- what is_row, is_whole, .. tell -/
def isRow : Dt → Bool
  | .lst _ => true
  | .tup _ => true
  | _ => false
def Dt.items : Dt → List Dt
  | .lst ds => ds
  | .tup ds => ds
  | _ => []
def isWhole (d : Dt) (lo : Int) : Bool := match d with
  | .int i => decide (lo ≤ i)
  | _ => false
def isWithin (d : Dt) (lo hi : Int) : Bool := match d with
  | .int i => decide (lo ≤ i) && decide (i ≤ hi)
  | _ => false
def isPlain : Dt → Bool
  | .str w => w.all (alpha.contains ·)
  | _ => false
def isLetter : Dt → Bool
  | .str w => w.all (alpha.contains ·) && decide (w.length = 1)
  | _ => false
def isClip : Dt → Bool
  | .str w => w.all (alpha.contains ·) && decide (w.length ≤ 60)
  | _ => false
def isWord : Dt → Bool
  | .str w => w.all (alpha.contains ·) && decide (w.length ≤ 60) && decide (w ≠ [])
  | _ => false
def isPiece (d : Dt) : Bool := isRow d && (match d.items with
  | [a, b] => isWord a && isWhole b 1
  | _ => false)
def pieceSize (d : Dt) : Int := match d.items with
  | [.str w, .int n] => (w.length : Int) * n
  | _ => 0
def isText (d : Dt) : Bool := isRow d && decide (d.items.length ≤ 40) && d.items.all isPiece && decide ((d.items.map pieceSize).sum ≤ 10 ^ 30)
/-- a text's pieces -/
def pcOf (d : Dt) : List Nat × Nat := match d.items with
  | [.str w, .int n] => (w, n.toNat)
  | _ => ([], 0)
def pcs (d : Dt) : Pcs := d.items.map pcOf
theorem isPiece_of {d : Dt} (h : isPiece d = true) : ∃ w n, d.items = [.str w, .int n] ∧ isRow d = true ∧ Word w ∧ 1 ≤ n := by
  unfold isPiece at h
  rw [Bool.and_eq_true] at h
  obtain ⟨h1, h2⟩ := h
  split at h2
  · rename_i a b e
    rw [Bool.and_eq_true] at h2
    obtain ⟨h3, h4⟩ := h2
    cases a with
    | str w =>
      cases b with
      | int n =>
        unfold isWord at h3
        unfold isWhole at h4
        simp only [Bool.and_eq_true, decide_eq_true_eq] at h3 h4
        exact ⟨w, n, e, h1, ⟨h3.1.1, h3.2, h3.1.2⟩, h4⟩
      | _ => simp [isWhole] at h4
    | _ => simp [isWord] at h3
  · cases h2
theorem sum_size : ∀ {ds : List Dt}, ds.all isPiece = true → (ds.map pieceSize).sum = (size (ds.map pcOf) : Int)
  | [], _ => rfl
  | d :: ds, h => by
    rw [List.all_cons, Bool.and_eq_true] at h
    obtain ⟨w, n, e, _, _, hn⟩ := isPiece_of h.1
    rw [List.map_cons, List.sum_cons, sum_size h.2, List.map_cons, size_cons]
    have e1 : pieceSize d = (w.length : Int) * n := by unfold pieceSize; rw [e]
    have e2 : pcOf d = (w, n.toNat) := by unfold pcOf; rw [e]
    rw [e1, e2, Int.natCast_add, Int.natCast_mul, Int.toNat_of_nonneg (by omega)]
theorem Good.of {d : Dt} (h : isText d = true) : Good (pcs d) := by
  unfold isText at h
  simp only [Bool.and_eq_true, decide_eq_true_eq] at h
  obtain ⟨⟨⟨h1, h2⟩, h3⟩, h4⟩ := h
  refine ⟨by unfold pcs; rw [List.length_map]; exact h2, fun p hp => ?_, ?_⟩
  · unfold pcs at hp
    obtain ⟨e, he, rfl⟩ := List.mem_map.mp hp
    obtain ⟨w, n, e1, _, hw, hn⟩ := isPiece_of (List.all_eq_true.mp h3 e he)
    have e2 : pcOf e = (w, n.toNat) := by unfold pcOf; rw [e1]
    rw [e2]
    exact ⟨hw, by show 1 ≤ n.toNat; omega⟩
  · rw [sum_size h3] at h4
    unfold pcs
    have : ((10 ^ 30 : Nat) : Int) = (10 ^ 30 : Int) := by decide
    omega

/-! ### a text in the heap, by its pieces -/
def PieceAt (K : PySem.W.Frag) (H : Hp) (v : V) (p : List Nat × Nat) : Prop := ∃ a, v = .ref a ∧ Row K H a [.str (tx p.1), .int p.2]
def TextAt (K : PySem.W.Frag) (H : Hp) (v : V) (ps : Pcs) : Prop := ∃ a xs, v = .ref a ∧ Row K H a xs ∧ Paired (PieceAt K H) xs ps
theorem prd_same {α β : Type} {R S : α → β → Prop} (f : ∀ a b, R a b → S a b) : ∀ {xs : List α} {ys : List β}, Paired R xs ys → Paired S xs ys
  | _, _, .nil => .nil
  | _, _, .cons h t => .cons (f _ _ h) (prd_same f t)
theorem PieceAt.same {K : PySem.W.Frag} {H H' : Hp} {v : V} {p} (e : Same H H') (h : PieceAt K H v p) : PieceAt K H' v p := by
  obtain ⟨a, rfl, h⟩ := h
  exact ⟨a, rfl, h.same e⟩
theorem TextAt.same {K : PySem.W.Frag} {H H' : Hp} {v : V} {ps} (e : Same H H') (h : TextAt K H v ps) : TextAt K H' v ps := by
  obtain ⟨a, xs, rfl, h1, h2⟩ := h
  exact ⟨a, xs, rfl, h1.same e, prd_same (fun _ _ => PieceAt.same e) h2⟩
theorem at_row {K : PySem.W.Frag} {H : Hp} {v : V} {d : Dt} (h : At K H v d) (hr : isRow d = true) : ∃ a xs, v = .ref a ∧ Row K H a xs ∧ Ats K H xs d.items := by
  cases d with
  | lst ds => unfold At at h; obtain ⟨a, xs, rfl, h1, h2⟩ := h; exact ⟨a, xs, rfl, .inl h1, h2⟩
  | tup ds => unfold At at h; obtain ⟨a, xs, rfl, h1, h2⟩ := h; exact ⟨a, xs, rfl, .inr h1, h2⟩
  | _ => simp [isRow] at hr
theorem pieceAt_of {K : PySem.W.Frag} {H : Hp} {v : V} {d : Dt} (h : At K H v d) (hp : isPiece d = true) : PieceAt K H v (pcOf d) := by
  obtain ⟨w, n, e, hr, hw, hn⟩ := isPiece_of hp
  obtain ⟨a, xs, rfl, h1, h2⟩ := at_row h hr
  rw [e] at h2
  unfold Ats at h2
  obtain ⟨v1, us, rfl, g1, h2⟩ := h2
  unfold Ats at h2
  obtain ⟨v2, us, rfl, g2, h2⟩ := h2
  unfold Ats at h2
  subst h2
  unfold At at g1 g2
  obtain ⟨rfl, _⟩ := g1
  subst g2
  have e2 : pcOf d = (w, n.toNat) := by unfold pcOf; rw [e]
  rw [e2]
  refine ⟨a, rfl, ?_⟩
  show Row K H a [.str (tx w), .int (n.toNat : Int)]
  rw [Int.toNat_of_nonneg (by omega)]
  exact h1
theorem textAt_of {K : PySem.W.Frag} {H : Hp} {v : V} {d : Dt} (h : At K H v d) (ht : isText d = true) : TextAt K H v (pcs d) := by
  unfold isText at ht
  simp only [Bool.and_eq_true, decide_eq_true_eq] at ht
  obtain ⟨⟨⟨h1, h2⟩, h3⟩, h4⟩ := ht
  obtain ⟨a, xs, rfl, g1, g2⟩ := at_row h h1
  refine ⟨a, xs, rfl, g1, ?_⟩
  unfold pcs
  generalize hd : d.items = ds at g2 h3
  clear hd h4 h1 h2 g1 h
  induction ds generalizing xs with
  | nil => unfold Ats at g2; subst g2; exact .nil
  | cons c ds ih =>
    unfold Ats at g2
    obtain ⟨v, us, rfl, k1, k2⟩ := g2
    rw [List.all_cons, Bool.and_eq_true] at h3
    exact .cons (pieceAt_of k1 h3.1) (ih us k2 h3.2)
theorem prd_at {α β : Type} {R : α → β → Prop} {xs : List α} {ys : List β} (h : Paired R xs ys) : ∀ {i : Nat} {x : α}, xs[i]? = some x → ∃ y, ys[i]? = some y ∧ R x y := by
  induction h with
  | nil => intro i x e; simp at e
  | cons h t ih =>
    intro i x e
    cases i with
    | zero =>
      have := Option.some.inj e
      subst this
      exact ⟨_, rfl, h⟩
    | succ i => exact ih (by simpa using e)
theorem prd_len {α β : Type} {R : α → β → Prop} {xs : List α} {ys : List β} (h : Paired R xs ys) : xs.length = ys.length := Paired.length h

theorem at_ofA {α : Type} {xs : List α} {z : Int} {j : Nat} {v : α} (e : z = (j : Int)) (h : xs[j]? = some v) : atI xs z = some v := by
  rw [e]
  exact atI_nat h
/-! ### readings over rows -/
section
variable {K : PySem.W.Frag} {H : Hp} {a : Addr} {xs : List V}
theorem ix_row {i : Int} {x : V} {Q : VK} (h : Row K H a xs) (e : atI xs i = some x) (q : Q x H) : rIx K (.ref a) (.int i) H Q := by
  rcases h with h | h
  · exact .inl ⟨a, xs, i, x, rfl, rfl, h, e, q⟩
  · exact .inr (.inl ⟨a, xs, i, x, rfl, rfl, h, e, q⟩)
theorem ix_lst {i : Int} {x : V} {Q : VK} (h : H a = some (.lst xs)) (e : atI xs i = some x) (q : Q x H) : rIx K (.ref a) (.int i) H Q := ix_row (.inl (SqL.of h)) e q
theorem ix_tx {z : List Nat} {i : Int} {c : Nat} {Q : VK} (h : z.length ≤ 1000000) (e : atI z i = some c) (q : Q (.str (tx [c])) H) : rIx K (.str (tx z)) (.int i) H Q :=
  .inr (.inr ⟨tx z, i, c, rfl, rfl, by rw [tx_len]; exact Nat.le_trans h (by decide), by rw [tx_cps]; exact e, q⟩)
theorem len_row {Q : VK} (h : Row K H a xs) (q : Q (.int xs.length) H) : rLenA K [.ref a] H Q := .inl ⟨a, xs, rfl, h, q⟩
theorem len_tx {w : List Nat} {Q : VK} (h : w.length ≤ 1000000) (q : Q (.int w.length) H) : rLenA K [.str (tx w)] H Q :=
  .inr ⟨tx w, rfl, by rw [tx_len]; exact Nat.le_trans h (by decide), by rw [tx_len]; exact q⟩
end
theorem Ats.at {K : PySem.W.Frag} {H : Hp} : ∀ {ds : List Dt} {vs : List V} {i : Nat} {v : V}, Ats K H vs ds → vs[i]? = some v → ∃ d, ds[i]? = some d ∧ At K H v d
  | [], vs, i, v, h, e => by unfold Ats at h; subst h; simp at e
  | c :: ds, vs, i, v, h, e => by
    unfold Ats at h
    obtain ⟨x, us, rfl, h1, h2⟩ := h
    cases i with
    | zero =>
      have : x = v := by simpa using e
      subst this
      exact ⟨c, rfl, h1⟩
    | succ i => exact h2.at (by simpa using e)
theorem isum_take : ∀ {l : List Int} {i : Nat} {z : Int}, l[i]? = some z → (l.take (i + 1)).sum = (l.take i).sum + z := sum_take
theorem all_take_succ {α : Type} {p : α → Bool} {l : List α} {i : Nat} {x : α} (h : (l.take i).all p = true) (e : l[i]? = some x) (hx : p x = true) : (l.take (i + 1)).all p = true := by
  rw [List.take_add_one, e, List.all_append, h]
  simp [hx]
end BK

namespace BK
open PySem PySem.Spec PyProof.Rows L2

/-! ### stretches of a word again and again -/
def cyc (w : List Nat) (at_ many : Nat) : List Nat := ((rep w ((at_ % w.length + many) / w.length + 1)).drop (at_ % w.length)).take many
theorem cyc_get {w : List Nat} (hw : w ≠ []) (a m i : Nat) (h : i < m) : (cyc w a m)[i]? = w[(a + i) % w.length]? := by
  have hp : 0 < w.length := List.length_pos_iff.mpr hw
  unfold cyc
  rw [List.getElem?_take, if_pos h, List.getElem?_drop, rep_get]
  · rw [Nat.mod_add_mod]
  · have h1 := Nat.lt_div_mul_add (a := a % w.length + m) hp
    rw [Nat.add_mul, Nat.one_mul]
    omega
theorem drop_rep {w : List Nat} (hw : w ≠ []) {n a m : Nat} (h : a + m ≤ n * w.length) : ((rep w n).drop a).take m = cyc w a m := by
  apply List.ext_getElem?
  intro i
  by_cases hi : i < m
  · rw [cyc_get hw a m i hi, List.getElem?_take, if_pos hi, List.getElem?_drop, rep_get _ _ _ (by omega)]
  · have hp : 0 < w.length := List.length_pos_iff.mpr hw
    rw [List.getElem?_take, if_neg hi]
    unfold cyc
    rw [List.getElem?_take, if_neg hi]
theorem cyc_len {w : List Nat} (hw : w ≠ []) (a m : Nat) : (cyc w a m).length = m := by
  have hp : 0 < w.length := List.length_pos_iff.mpr hw
  unfold cyc
  rw [List.length_take, List.length_drop, rep_len]
  have h1 := Nat.lt_div_mul_add (a := a % w.length + m) hp
  rw [Nat.add_mul, Nat.one_mul]
  omega

theorem rep_mem {x : List Nat} {c : Nat} : ∀ {n : Nat}, c ∈ rep x n → c ∈ x
  | 0, h => by cases h
  | n + 1, h => by
    rw [rep_succ] at h
    rcases List.mem_append.mp h with h | h
    · exact h
    · exact rep_mem h
/-! ### spans -/
abbrev Span := Nat × Nat × List Nat
def spansOf : Nat → Pcs → List Span
  | _, [] => []
  | s, p :: ps => (s, s + p.1.length * p.2, p.1) :: spansOf (s + p.1.length * p.2) ps
theorem spansOf_len : ∀ (ps : Pcs) (s : Nat), (spansOf s ps).length = ps.length
  | [], _ => rfl
  | p :: ps, s => by unfold spansOf; rw [List.length_cons, spansOf_len ps, List.length_cons]
theorem spansOf_get : ∀ (ps : Pcs) (s i : Nat) (p), ps[i]? = some p → (spansOf s ps)[i]? = some (s + size (ps.take i), s + size (ps.take i) + p.1.length * p.2, p.1)
  | [], s, i, p, h => by simp at h
  | q :: ps, s, 0, p, h => by
    have : q = p := by simpa using h
    subst this
    simp [spansOf, size]
  | q :: ps, s, i + 1, p, h => by
    unfold spansOf
    rw [List.getElem?_cons_succ, spansOf_get ps _ i p (by simpa using h), List.take_succ_cons, size_cons]
    simp only [Nat.add_assoc]
theorem spansOf_at (ps : Pcs) {i : Nat} {x : Span} (h : (spansOf 0 ps)[i]? = some x) : ∃ p, ps[i]? = some p ∧ x = (size (ps.take i), size (ps.take i) + p.1.length * p.2, p.1) := by
  have hl := (List.getElem?_eq_some_iff.mp h).1
  rw [spansOf_len] at hl
  refine ⟨ps[i], List.getElem?_eq_getElem hl, ?_⟩
  have := spansOf_get ps 0 i ps[i] (List.getElem?_eq_getElem hl)
  rw [this] at h
  have := Option.some.inj h
  rw [← this]
  simp only [Nat.zero_add]
def SpanAt (H : Hp) (v : V) (x : Span) : Prop := ∃ a, v = .ref a ∧ H a = some (.tup [.int x.1, .int x.2.1, .str (tx x.2.2)])
def SpansAt (H : Hp) (a : Addr) (xs : List Span) : Prop := ∃ us, H a = some (.lst us) ∧ Paired (SpanAt H) us xs
theorem SpanAt.same {H H' : Hp} {v : V} {x : Span} (e : Same H H') (h : SpanAt H v x) : SpanAt H' v x := by
  obtain ⟨a, rfl, h⟩ := h
  exact ⟨a, rfl, e _ _ h⟩
theorem SpansAt.same {H H' : Hp} {a : Addr} {xs : List Span} (e : Same H H') (h : SpansAt H a xs) : SpansAt H' a xs := by
  obtain ⟨us, h1, h2⟩ := h
  exact ⟨us, e _ _ h1, prd_same (fun _ _ => SpanAt.same e) h2⟩
theorem SpanAt.upd {H : Hp} {v : V} {x : Span} {o : Addr} {us vs : List V} (ho : H o = some (.lst us)) (h : SpanAt H v x) : SpanAt (upd H o (.lst vs)) v x := by
  obtain ⟨a, rfl, h⟩ := h
  exact ⟨a, rfl, by rw [upd_ne (ne_of h ho (by intro z; cases z))]; exact h⟩
theorem prd_snoc {α β : Type} {R : α → β → Prop} {xs : List α} {ys : List β} {x : α} {y : β} (h : Paired R xs ys) (hxy : R x y) : Paired R (xs ++ [x]) (ys ++ [y]) := by
  induction h with
  | nil => exact .cons hxy .nil
  | cons a t ih => exact .cons a ih
theorem same_mut {H H' : Hp} {p : Addr} {o : HO} (e : Same H H') (h : H p = none) : Same H (upd H' p o) := fun a u ha => by
  rw [upd_ne (ne_of_none ha h)]
  exact e a u ha
/-- the spans' end -/
theorem spansOf_last {ps : Pcs} (h : ps ≠ []) : ∃ p s, ps.getLast? = some p ∧ (spansOf 0 ps).getLast? = some (s, size ps, p.1) := by
  have hp : 0 < ps.length := List.length_pos_iff.mpr h
  have e := List.getElem?_eq_getElem (l := ps) (i := ps.length - 1) (by omega)
  refine ⟨ps[ps.length - 1], size (ps.take (ps.length - 1)), by rw [List.getLast?_eq_getElem?, e], ?_⟩
  rw [List.getLast?_eq_getElem?, spansOf_len, spansOf_get ps 0 _ _ e, Nat.zero_add, ← size_take_succ ps e, show ps.length - 1 + 1 = ps.length by omega, List.take_length]

/-! ### looks, counts, so-manieths of what is spelled -/
theorem spell_take_succ {ps : Pcs} {i : Nat} {p} (h : ps[i]? = some p) : spell (ps.take (i + 1)) = spell (ps.take i) ++ rep p.1 p.2 := by
  rw [List.take_add_one, h, spell_app]
  show _ ++ spell [p] = _
  rw [spell_cons, spell_nil, List.append_nil]
theorem look_app (A B : List Nat) (p m : Nat) : ((A ++ B).drop p).take m = (A.drop p).take m ++ (B.drop (max A.length p - A.length)).take (min (A.length + B.length) (p + m) - max A.length p) := by
  rw [List.drop_append, List.take_append, List.length_drop]
  congr 1
  rw [show max A.length p - A.length = p - A.length by omega]
  by_cases h : m - (A.length - p) ≤ B.length - (p - A.length)
  · congr 1
    omega
  · rw [List.take_of_length_le (by rw [List.length_drop]; omega), List.take_of_length_le (by rw [List.length_drop]; omega)]
theorem count_app (A B : List Nat) (c m : Nat) : ((A ++ B).take m).count c = (A.take m).count c + (B.take (min (A.length + B.length) m - A.length)).count c := by
  rw [List.take_append, List.count_append]
  congr 2
  by_cases h : m - A.length ≤ B.length
  · congr 1
    omega
  · rw [List.take_of_length_le (by omega), List.take_of_length_le (by omega)]
/-- the places of a sign -/
def pos (w : List Nat) (c : Nat) : List Nat := (List.range w.length).filter fun i => w[i]? == some c
def IsNth (l : List Nat) (c k i : Nat) : Prop := l[i]? = some c ∧ (l.take i).count c = k
theorem posTo (w : List Nat) (c : Nat) : ∀ n, n ≤ w.length → ((List.range n).filter fun i => w[i]? == some c).length = (w.take n).count c ∧
    ∀ k i, ((List.range n).filter fun i => w[i]? == some c)[k]? = some i → IsNth w c k i
  | 0, _ => ⟨by simp, fun k i h => by simp at h⟩
  | n + 1, hn => by
    obtain ⟨ih1, ih2⟩ := posTo w c n (by omega)
    rw [List.range_succ, List.filter_append]
    have hg : w[n]? = some w[n] := List.getElem?_eq_getElem (by omega)
    by_cases hc : w[n] = c
    · have e : (List.filter (fun i => w[i]? == some c) [n]) = [n] := by
        rw [List.filter_cons, hg, hc]
        simp
      rw [e]
      have hcount : (w.take (n + 1)).count c = (w.take n).count c + 1 := by
        rw [List.take_add_one, hg, List.count_append, hc]
        simp
      refine ⟨by rw [List.length_append, ih1, hcount]; rfl, fun k i h => ?_⟩
      by_cases hk : k < ((List.range n).filter fun i => w[i]? == some c).length
      · rw [List.getElem?_append_left hk] at h
        exact ih2 k i h
      · rw [List.getElem?_append_right (by omega)] at h
        have hk0 : k - ((List.range n).filter fun i => w[i]? == some c).length = 0 := by
          have := (List.getElem?_eq_some_iff.mp h).1
          simp at this
          omega
        rw [hk0] at h
        have hi : n = i := by simpa using h
        subst hi
        refine ⟨by rw [hg, hc], ?_⟩
        rw [← ih1]
        omega
    · have e : (List.filter (fun i => w[i]? == some c) [n]) = [] := by
        rw [List.filter_cons, hg]
        simp [hc]
      rw [e, List.append_nil]
      have hcount : (w.take (n + 1)).count c = (w.take n).count c := by
        rw [List.take_add_one, hg, List.count_append]
        simp [hc]
      exact ⟨by rw [ih1, hcount], ih2⟩
theorem pos_len (w : List Nat) (c : Nat) : (pos w c).length = w.count c := by
  have := (posTo w c w.length (Nat.le_refl _)).1
  rw [List.take_length] at this
  exact this
theorem pos_get {w : List Nat} {c k i : Nat} (h : (pos w c)[k]? = some i) : IsNth w c k i := (posTo w c w.length (Nat.le_refl _)).2 k i h
theorem nth_rep {w : List Nat} {c q r i n : Nat} (h : IsNth w c r i) (hq : q < n) : IsNth (rep w n) c (q * w.count c + r) (q * w.length + i) := by
  have hi := (List.getElem?_eq_some_iff.mp h.1).1
  have e : n = q + ((n - q - 1) + 1) := by omega
  rw [e, rep_add, rep_succ]
  constructor
  · rw [List.getElem?_append_right (by rw [rep_len]; omega), rep_len, show q * w.length + i - q * w.length = i by omega, List.getElem?_append_left hi]
    exact h.1
  · rw [List.take_append, rep_len, List.count_append, List.take_of_length_le (by rw [rep_len]; omega), rep_count, show q * w.length + i - q * w.length = i by omega, List.take_append_of_le_length (by omega), h.2]
theorem nth_app_right {A B : List Nat} {c k i : Nat} (h : IsNth B c k i) : IsNth (A ++ B) c (A.count c + k) (A.length + i) := by
  constructor
  · rw [List.getElem?_append_right (by omega), show A.length + i - A.length = i by omega]
    exact h.1
  · rw [List.take_append, List.count_append, List.take_of_length_le (by omega), show A.length + i - A.length = i by omega, h.2]
theorem nth_app_left {A B : List Nat} {c k i : Nat} (h : IsNth A c k i) : IsNth (A ++ B) c k i := by
  have hi := (List.getElem?_eq_some_iff.mp h.1).1
  exact ⟨by rw [List.getElem?_append_left hi]; exact h.1, by rw [List.take_append_of_le_length (by omega)]; exact h.2⟩
theorem sum_le_len : ∀ (ss : List (List Nat)), (ss.map (·.length)).sum = ss.flatten.length
  | [] => rfl
  | a :: r => by rw [List.map_cons, List.sum_cons, sum_le_len r, List.flatten_cons, List.length_append]
end BK

namespace BK
open PySem PySem.Spec PyProof.Rows L2

/-! ### two rows of letters that go round -/
theorem two_rounds {u v : Nat → Option Nat} {p q low high : Nat} (hp : 0 < p) (hq : 0 < q) (hu : ∀ i, low ≤ i → i + p < high → u (i + p) = u i) (hv : ∀ i, low ≤ i → i + q < high → v (i + q) = v i)
    (h : ∀ i, low ≤ i → i < low + p + q → i < high → u i = v i) : ∀ n i, i ≤ n → low ≤ i → i < high → u i = v i
  | 0, i, hn, hl, hh => h i hl (by omega) hh
  | n + 1, i, hn, hl, hh => by
    by_cases hi : i < low + p + q
    · exact h i hl hi hh
    · have ih := two_rounds hp hq hu hv h n
      have e1 : u i = u (i - p) := by
        have := hu (i - p) (by omega) (by omega)
        rwa [show i - p + p = i by omega] at this
      have e2 := ih (i - p) (by omega) (by omega) (by omega)
      have e3 : v (i - p) = v (i - p - q) := by
        have := hv (i - p - q) (by omega) (by omega)
        rwa [show i - p - q + q = i - p by omega] at this
      have e4 := ih (i - p - q) (by omega) (by omega) (by omega)
      have e5 : u (i - q) = u (i - p - q) := by
        have := hu (i - p - q) (by omega) (by omega)
        rwa [show i - p - q + p = i - q by omega] at this
      have e6 := ih (i - q) (by omega) (by omega) (by omega)
      have e7 : v i = v (i - q) := by
        have := hv (i - q) (by omega) (by omega)
        rwa [show i - q + q = i by omega] at this
      rw [e1, e2, e3, ← e4, ← e5, e6, e7]
/-- between two ends a text is one word again and again, or has ended -/
def Round (A : List Nat) (low high : Nat) : Prop := ∃ p, 0 < p ∧ p ≤ 60 ∧ ∀ i, low ≤ i → i + p < high → A[i + p]? = A[i]?
theorem round_of : ∀ (ps : Pcs) (low high : Nat), (∀ x ∈ ps, x.1 ≠ [] ∧ x.1.length ≤ 60) → low < high → (∀ k, k < ps.length → size (ps.take (k + 1)) ≤ low ∨ high ≤ size (ps.take (k + 1))) →
    size ps ≤ low ∨ (high ≤ size ps ∧ Round (spell ps) low high)
  | [], low, high, _, _, _ => .inl (Nat.zero_le _)
  | x :: ps, low, high, hg, hlh, he => by
    have hx := hg x (List.mem_cons_self ..)
    have hp : 0 < x.1.length := List.length_pos_iff.mpr hx.1
    have e0 : size ((x :: ps).take (0 + 1)) = x.1.length * x.2 := by simp [size]
    have hmul : x.2 * x.1.length = x.1.length * x.2 := Nat.mul_comm _ _
    by_cases hl : low < x.1.length * x.2
    · have h1 := he 0 (by simp)
      rw [e0] at h1
      have h2 : high ≤ x.1.length * x.2 := by omega
      refine .inr ⟨by rw [size_cons]; omega, x.1.length, hp, hx.2, fun i h3 h4 => ?_⟩
      rw [spell_cons, List.getElem?_append_left (by rw [rep_len, hmul]; omega), List.getElem?_append_left (by rw [rep_len, hmul]; omega), rep_get _ _ _ (by rw [hmul]; omega), rep_get _ _ _ (by rw [hmul]; omega), Nat.add_mod_right]
    · have ih := round_of ps (low - x.1.length * x.2) (high - x.1.length * x.2) (fun y hy => hg y (List.mem_cons_of_mem _ hy)) (by omega) (fun k hk => by
        have := he (k + 1) (by rw [List.length_cons]; omega)
        rw [List.take_succ_cons, size_cons] at this
        omega)
      rcases ih with ih | ⟨ih1, p, ih2, ih3, ih4⟩
      · exact .inl (by rw [size_cons]; omega)
      · refine .inr ⟨by rw [size_cons]; omega, p, ih2, ih3, fun i h3 h4 => ?_⟩
        have := ih4 (i - x.1.length * x.2) (by omega) (by omega)
        rw [spell_cons, List.getElem?_append_right (by rw [rep_len, hmul]; omega), List.getElem?_append_right (by rw [rep_len, hmul]; omega), rep_len, hmul]
        rw [show i + p - x.1.length * x.2 = i - x.1.length * x.2 + p by omega]
        exact this
/-- told so far alike, and so on the next stretch: alike to the next end -/
theorem alike_on {A B : List Nat} {low high : Nat} (hlh : low ≤ high) (h0 : A.take low = B.take low)
    (hA : A.length ≤ low ∨ (high ≤ A.length ∧ Round A low high)) (hB : B.length ≤ low ∨ (high ≤ B.length ∧ Round B low high))
    (h : (A.drop low).take (min (high - low) 120) = (B.drop low).take (min (high - low) 120)) : A.take high = B.take high := by
  by_cases he : low = high
  · rw [← he]
    exact h0
  have hlt : low < high := by omega
  have hl := congrArg List.length h
  rw [List.length_take, List.length_take, List.length_drop, List.length_drop] at hl
  rcases hA with hA | ⟨hA, p, hp, hp2, hpA⟩
  · rcases hB with hB | ⟨hB, _⟩
    · rw [List.take_of_length_le hA, List.take_of_length_le hB] at h0
      rw [h0]
    · omega
  · rcases hB with hB | ⟨hB, q, hq, hq2, hqB⟩
    · omega
    · have hag : ∀ i, low ≤ i → i < low + p + q → i < high → A[i]? = B[i]? := fun i h1 h2 h3 => by
        have e := congrArg (fun l => l[i - low]?) h
        simp only [List.getElem?_take, List.getElem?_drop] at e
        rw [if_pos (by omega), if_pos (by omega), show low + (i - low) = i by omega] at e
        exact e
      have hall := two_rounds (u := fun i => A[i]?) (v := fun i => B[i]?) hp hq hpA hqB hag
      apply List.ext_getElem?
      intro i
      rw [List.getElem?_take, List.getElem?_take]
      by_cases hi : i < high
      · rw [if_pos hi, if_pos hi]
        by_cases hil : i < low
        · have e := congrArg (fun l => l[i]?) h0
          simp only [List.getElem?_take] at e
          rw [if_pos hil, if_pos hil] at e
          exact e
        · exact hall i i (Nat.le_refl _) (by omega) hi
      · rw [if_neg hi, if_neg hi]
/-- the first place at which two rows are unlike -/
def Unlike (A B : List Nat) (i : Nat) : Prop := A.take i = B.take i ∧ A[i]? ≠ B[i]?
theorem Unlike.symm {A B : List Nat} {i : Nat} (h : Unlike A B i) : Unlike B A i := ⟨h.1.symm, h.2.symm⟩
theorem Unlike.uniq {A B : List Nat} {i j : Nat} (h : Unlike A B i) (k : Unlike A B j) : i = j := by
  have key : ∀ {i j : Nat}, Unlike A B i → Unlike A B j → ¬ i < j := fun {i j} h k hlt => by
    have e := congrArg (fun l => l[i]?) k.1
    simp only [List.getElem?_take] at e
    rw [if_pos hlt, if_pos hlt] at e
    exact h.2 e
  have h1 := key h k
  have h2 := key k h
  omega
theorem Unlike.ne {A B : List Nat} {i : Nat} (h : Unlike A B i) : A ≠ B := fun z => h.2 (by rw [z])
theorem Unlike.le {A B : List Nat} {i : Nat} (h : Unlike A B i) : i ≤ max A.length B.length := by
  by_cases hi : i ≤ max A.length B.length
  · exact hi
  · exact absurd (by rw [List.getElem?_eq_none (by omega), List.getElem?_eq_none (by omega)]) h.2
theorem unlike_on {A B : List Nat} {low many at_ : Nat} (h0 : A.take low = B.take low) (h : Unlike ((A.drop low).take many) ((B.drop low).take many) at_) : Unlike A B (low + at_) := by
  obtain ⟨h1, h2⟩ := h
  have hlt : at_ < many := by
    by_cases hm : at_ < many
    · exact hm
    · refine absurd ?_ h2
      rw [List.getElem?_eq_none (by rw [List.length_take]; omega), List.getElem?_eq_none (by rw [List.length_take]; omega)]
  rw [List.take_take, List.take_take, Nat.min_eq_left (by omega)] at h1
  rw [List.getElem?_take, List.getElem?_take, if_pos hlt, if_pos hlt, List.getElem?_drop, List.getElem?_drop] at h2
  refine ⟨?_, h2⟩
  rw [List.take_add, List.take_add, h0, h1]
end BK

namespace BK
open PySem PySem.Spec PyProof.Rows L2
/-! ## keys and sheets -/
inductive Ky where
  | write (w : List Nat) | paste | left (n : Nat) | right (n : Nat) | strike (n : Nat) | rub (n : Nat) | copy (n : Nat) | cut (n : Nat)
def Ky.vs : Ky → List V
  | .write w => [.str "write", .str (tx w)]
  | .paste => [.str "paste"]
  | .left n => [.str "left", .int n]
  | .right n => [.str "right", .int n]
  | .strike n => [.str "strike", .int n]
  | .rub n => [.str "rub", .int n]
  | .copy n => [.str "copy", .int n]
  | .cut n => [.str "cut", .int n]
def Ky.wt : Ky → Nat
  | .write w => w.length
  | .paste => 1
  | .left n | .right n | .strike n | .rub n | .copy n | .cut n => n
def Ky.ok : Ky → Prop
  | .write w => w ≠ [] ∧ w.length ≤ 60 ∧ Plain w
  | .paste => True
  | .left n | .right n | .strike n | .rub n | .copy n | .cut n => 1 ≤ n
def hwt (ks : List Ky) : Nat := (ks.map Ky.wt).sum
structure GoodH (ks : List Ky) : Prop where
  ok : ∀ k ∈ ks, k.ok
  wt : hwt ks ≤ 60
theorem Ky.ok.pos : ∀ {k : Ky}, k.ok → 1 ≤ k.wt
  | .write w, h => List.length_pos_iff.mpr h.1
  | .paste, _ => Nat.le_refl _
  | .left n, h | .right n, h | .strike n, h | .rub n, h | .copy n, h | .cut n, h => h
theorem hwt_cons (k : Ky) (ks : List Ky) : hwt (k :: ks) = k.wt + hwt ks := by unfold hwt; rw [List.map_cons, List.sum_cons]
theorem hwt_app (as bs : List Ky) : hwt (as ++ bs) = hwt as + hwt bs := by unfold hwt; rw [List.map_append, List.sum_append]
theorem hwt_mem {k : Ky} {ks : List Ky} (h : k ∈ ks) : k.wt ≤ hwt ks := by
  induction ks with
  | nil => cases h
  | cons a as ih =>
    rw [hwt_cons]
    rcases List.mem_cons.mp h with rfl | h
    · omega
    · have := ih h; omega
theorem len_hwt : ∀ {ks : List Ky}, (∀ k ∈ ks, k.ok) → ks.length ≤ hwt ks
  | [], _ => Nat.zero_le _
  | k :: ks, h => by
    have h1 := (h k (List.mem_cons_self ..)).pos
    have h2 := len_hwt (ks := ks) fun x hx => h x (List.mem_cons_of_mem _ hx)
    rw [hwt_cons, List.length_cons]
    omega
theorem GoodH.few {ks : List Ky} (h : GoodH ks) : ks.length ≤ 60 := Nat.le_trans (len_hwt h.ok) h.wt

/-! ### what keys do: the nearest letter of a side stands last -/
section
variable {α β : Type}
def near (s : List α) (n : Nat) : List α := (s.drop (s.length - n)).reverse
def rest (s : List α) (n : Nat) : List α := s.take (s.length - n)
theorem near_len (s : List α) (n : Nat) : (near s n).length = min n s.length := by unfold near; rw [List.length_reverse, List.length_drop]; omega
theorem rest_len (s : List α) (n : Nat) : (rest s n).length = s.length - n := by unfold rest; rw [List.length_take]; omega
theorem near_map (f : α → β) (s : List α) (n : Nat) : near (s.map f) n = (near s n).map f := by unfold near; rw [List.length_map, List.map_reverse, List.map_drop]
theorem rest_map (f : α → β) (s : List α) (n : Nat) : rest (s.map f) n = (rest s n).map f := by unfold rest; rw [List.length_map, List.map_take]
structure Sd (α : Type) where
  l : List α
  r : List α
  c : List α
def Sd.map (f : α → β) (s : Sd α) : Sd β := ⟨s.l.map f, s.r.map f, s.c.map f⟩
def step (f : Nat → α) : Ky → Sd α → Sd α
  | .write w, s => ⟨s.l ++ w.map f, s.r, s.c⟩
  | .paste, s => ⟨s.l ++ s.c, s.r, s.c⟩
  | .left n, s => ⟨rest s.l n, s.r ++ near s.l n, s.c⟩
  | .right n, s => ⟨s.l ++ near s.r n, rest s.r n, s.c⟩
  | .strike n, s => ⟨s.l, rest s.r n, s.c⟩
  | .rub n, s => ⟨rest s.l n, s.r, s.c⟩
  | .copy n, s => ⟨s.l, s.r, near s.r n⟩
  | .cut n, s => ⟨s.l, rest s.r n, near s.r n⟩
theorem step_map (f : Nat → α) (g : α → β) : ∀ (k : Ky) (s : Sd α), step (fun n => g (f n)) k (s.map g) = (step f k s).map g
  | .write w, s => by
    show Sd.mk (s.l.map g ++ w.map fun n => g (f n)) _ _ = Sd.mk ((s.l ++ w.map f).map g) _ _
    rw [List.map_append, List.map_map]
    rfl
  | .paste, s => by
    show Sd.mk (s.l.map g ++ s.c.map g) _ _ = Sd.mk ((s.l ++ s.c).map g) _ _
    rw [List.map_append]
    rfl
  | .left n, s => by
    show Sd.mk (rest (s.l.map g) n) (s.r.map g ++ near (s.l.map g) n) _ = Sd.mk ((rest s.l n).map g) ((s.r ++ near s.l n).map g) _
    rw [List.map_append, near_map, rest_map]
    rfl
  | .right n, s => by
    show Sd.mk (s.l.map g ++ near (s.r.map g) n) (rest (s.r.map g) n) _ = Sd.mk ((s.l ++ near s.r n).map g) ((rest s.r n).map g) _
    rw [List.map_append, near_map, rest_map]
    rfl
  | .strike n, s => by
    show Sd.mk _ (rest (s.r.map g) n) _ = Sd.mk _ ((rest s.r n).map g) _
    rw [rest_map]
    rfl
  | .rub n, s => by
    show Sd.mk (rest (s.l.map g) n) _ _ = Sd.mk ((rest s.l n).map g) _ _
    rw [rest_map]
    rfl
  | .copy n, s => by
    show Sd.mk _ _ (near (s.r.map g) n) = Sd.mk _ _ ((near s.r n).map g)
    rw [near_map]
    rfl
  | .cut n, s => by
    show Sd.mk _ (rest (s.r.map g) n) (near (s.r.map g) n) = Sd.mk _ ((rest s.r n).map g) ((near s.r n).map g)
    rw [near_map, rest_map]
    rfl
def Sd.size (s : Sd α) : Nat := s.l.length + s.r.length
theorem step_size (f : Nat → α) : ∀ (k : Ky) (s : Sd α), k.wt ≤ 60 → s.c.length ≤ 60 → (step f k s).size ≤ s.size + 60 ∧ (step f k s).c.length ≤ 60
  | .write w, s, h, hc => by
    have h : w.length ≤ 60 := h
    unfold Sd.size step
    simp only [List.length_append, List.length_map]
    omega
  | .paste, s, h, hc => by
    unfold Sd.size step
    simp only [List.length_append]
    omega
  | .left n, s, h, hc | .right n, s, h, hc | .strike n, s, h, hc | .rub n, s, h, hc | .copy n, s, h, hc | .cut n, s, h, hc => by
    have h : n ≤ 60 := h
    unfold Sd.size step
    simp only [List.length_append, near_len, rest_len]
    omega
def steps (f : Nat → α) (ks : List Ky) (s : Sd α) : Sd α := ks.foldl (fun s k => step f k s) s
theorem steps_app (f : Nat → α) (as bs : List Ky) (s : Sd α) : steps f (as ++ bs) s = steps f bs (steps f as s) := by unfold steps; rw [List.foldl_append]
theorem steps_cons (f : Nat → α) (k : Ky) (ks : List Ky) (s : Sd α) : steps f (k :: ks) s = steps f ks (step f k s) := rfl
theorem steps_map (f : Nat → α) (g : α → β) : ∀ (ks : List Ky) (s : Sd α), steps (fun n => g (f n)) ks (s.map g) = (steps f ks s).map g
  | [], _ => rfl
  | k :: ks, s => by rw [steps_cons, steps_cons, step_map, steps_map f g ks]
theorem steps_size (f : Nat → α) : ∀ (ks : List Ky) (s : Sd α), (∀ k ∈ ks, k.wt ≤ 60) → s.c.length ≤ 60 → (steps f ks s).size ≤ s.size + 60 * ks.length ∧ (steps f ks s).c.length ≤ 60
  | [], s, _, hc => ⟨Nat.le_refl _, hc⟩
  | k :: ks, s, h, hc => by
    obtain ⟨h1, h2⟩ := step_size f k s (h k (List.mem_cons_self ..)) hc
    obtain ⟨h3, h4⟩ := steps_size f ks (step f k s) (fun x hx => h x (List.mem_cons_of_mem _ hx)) h2
    rw [steps_cons, List.length_cons]
    exact ⟨by omega, h4⟩
/-- so many pressings -/
def presses (f : Nat → α) (ks : List Ky) : Nat → Sd α → Sd α
  | 0, s => s
  | n + 1, s => presses f ks n (steps f ks s)
theorem presses_add (f : Nat → α) (ks : List Ky) : ∀ (m n : Nat) (s : Sd α), presses f ks (m + n) s = presses f ks n (presses f ks m s)
  | 0, n, s => by rw [Nat.zero_add]; rfl
  | m + 1, n, s => by
    rw [show m + 1 + n = (m + n) + 1 by omega]
    exact presses_add f ks m n (steps f ks s)
theorem presses_succ (f : Nat → α) (ks : List Ky) (n : Nat) (s : Sd α) : presses f ks (n + 1) s = steps f ks (presses f ks n s) := presses_add f ks n 1 s
theorem presses_map (f : Nat → α) (g : α → β) (ks : List Ky) : ∀ (n : Nat) (s : Sd α), presses (fun n => g (f n)) ks n (s.map g) = (presses f ks n s).map g
  | 0, _ => rfl
  | n + 1, s => by
    show presses _ ks n (steps _ ks (s.map g)) = _
    rw [steps_map, presses_map f g ks n]
    rfl
theorem presses_size (f : Nat → α) (ks : List Ky) (h : ∀ k ∈ ks, k.wt ≤ 60) (hl : ks.length ≤ 60) : ∀ (n : Nat) (s : Sd α), s.c.length ≤ 60 → (presses f ks n s).size ≤ s.size + 3600 * n ∧ (presses f ks n s).c.length ≤ 60
  | 0, s, hc => ⟨Nat.le_refl _, hc⟩
  | n + 1, s, hc => by
    obtain ⟨h1, h2⟩ := steps_size f ks s h hc
    obtain ⟨h3, h4⟩ := presses_size f ks h hl n (steps f ks s) h2
    exact ⟨by show (presses f ks n (steps f ks s)).size ≤ _; omega, h4⟩
end

/-! ### in the heap -/
def KeyAt (K : PySem.W.Frag) (H : Hp) (v : V) (k : Ky) : Prop := ∃ a, v = .ref a ∧ Row K H a k.vs
def HandAt (K : PySem.W.Frag) (H : Hp) (v : V) (ks : List Ky) : Prop := ∃ a xs, v = .ref a ∧ Row K H a xs ∧ Paired (KeyAt K H) xs ks
theorem KeyAt.same {K : PySem.W.Frag} {H H' : Hp} {v : V} {k} (e : Same H H') (h : KeyAt K H v k) : KeyAt K H' v k := by
  obtain ⟨a, rfl, h⟩ := h
  exact ⟨a, rfl, h.same e⟩
theorem HandAt.same {K : PySem.W.Frag} {H H' : Hp} {v : V} {ks} (e : Same H H') (h : HandAt K H v ks) : HandAt K H' v ks := by
  obtain ⟨a, xs, rfl, h1, h2⟩ := h
  exact ⟨a, xs, rfl, h1.same e, prd_same (fun _ _ => KeyAt.same e) h2⟩
/-- [f(x) for x in (a row that stands in slot j)] -/
theorem lc_rowN {K : PySem.W.Frag} {a : Addr} {xs ys : List V} {tt : TT} {te : TE} {vs : List Nat} {σ : L2.St} {H : Hp} {Q : VK} {j k : Nat} (hv : σ[j]? = some (some (.ref a))) (hr : Row K H a xs) (hl : xs.length = ys.length) (hz : ys.length < sizeLine)
    (hw : ∀ x, wipe ((wipe σ vs).set k (some x)) vs = wipe σ vs) (ht : ∀ σ H (R : Bool → Hp → Prop), R true H → tt σ H R)
    (hs : ∀ (i : Nat) (x y : V) (H' : Hp), xs[i]? = some x → ys[i]? = some y → Same H H' → ∀ R : VK, (∀ H4, Same H' H4 → R y H4) → te ((wipe σ vs).set k (some x)) H' R)
    (hd : ∀ D H', Same H H' → H D = none → H' D = some (.lst ys) → Q (.ref D) H') : tLc (iSeq K (tVar j)) (gName k) tt te vs σ H Q := by
  have st : ∀ D i x H', H D = none → xs[i]? = some x → Same H H' ∧ H' D = some (.lst (ys.take i)) → gName k x (wipe σ vs) H' fun σ2 H2 => wipe σ2 vs = wipe σ vs ∧ tt σ2 H2 fun b H3 =>
      if b = true then te σ2 H3 fun y H4 => ∃ acc, H4 D = some (.lst acc) ∧ acc.length < sizeLine ∧ (Same H (upd H4 D (.lst (acc ++ [y]))) ∧ (upd H4 D (.lst (acc ++ [y]))) D = some (.lst (ys.take (i + 1)))) else (Same H H3 ∧ H3 D = some (.lst (ys.take (i + 1)))) := by
    intro D i x H' nD hx ⟨s1, hD⟩
    have hi : i < ys.length := by
      rw [← hl]
      exact (List.getElem?_eq_some_iff.mp hx).1
    refine ⟨hw x, ht _ _ _ ?_⟩
    rw [if_pos rfl]
    refine hs i x ys[i] H' hx (List.getElem?_eq_getElem hi) s1 _ fun H4 s4 => ⟨_, s4 _ _ hD, ?_, same_mut (s1.trans s4) nD, ?_⟩
    · rw [List.length_take]
      omega
    · rw [upd_same, List.take_add_one, List.getElem?_eq_getElem hi]
      rfl
  have h0 : ∀ D, H D = none → Same H (upd H D (.lst [])) ∧ (upd H D (.lst [])) D = some (.lst (ys.take 0)) := fun D nD => ⟨same_upd nD, by rw [upd_same, List.take_zero]⟩
  have hq : ∀ D H', H D = none → Same H H' ∧ H' D = some (.lst (ys.take xs.length)) → Q (.ref D) H' := fun D H' nD ⟨s1, h1⟩ => hd D H' s1 nD (by rw [h1, hl, List.take_length])
  rcases hr with hr | hr
  · exact .inl ⟨_, hv, a, rfl, ⟨_, hr⟩, fun D nD => L2.lc_list (K := K) (a := a) (xs := xs) (fun i H' => Same H H' ∧ H' D = some (.lst (ys.take i))) (h0 D nD) (fun i H' _ p => p.1.seq hr) (fun i x H' hx p => st D i x H' nD hx p) (fun H' p => hq D H' nD p)⟩
  · exact .inr ⟨_, hv, a, rfl, ⟨_, hr⟩, fun D nD => L2.lc_tup (K := K) (a := a) (xs := xs) (fun i H' => Same H H' ∧ H' D = some (.lst (ys.take i))) (h0 D nD) (fun i H' _ p => sameT p.1 hr) (fun i x H' hx p => st D i x H' nD hx p) (fun H' p => hq D H' nD p)⟩
/-- the letter of a code -/
def lV (c : Nat) : V := .str (tx [c])
end BK

namespace BK
open PySem PySem.Spec PyProof.Rows L2

/-! ## defs that ask for a repr: known is that no repr is under way around them -/
structure FnG (P : Program) (w : World) (K : PySem.W.Frag) (mg : Str → Option Value) (base : Heap) (C : CXT) (k : Nat) (f : Addr) (fd : FuncData) (ps : List Str) (sp : Sp) : Prop where
  ln : ∀ vs H Q E, sp vs H Q E → vs.length = ps.length
  go : ∀ (A : Around) (out : List Env) (s : Shared) (H : Hp) (ar : Args) (us : List Value) (vs : List V) (Q : VK) (E : XK), A.guards = some [] → Room k A → Env0 P w K mg base A out s H →
    BindsTo s fd ar (ps.zip us) → Vals vs us → sp vs H Q E → codeAny (model P w) A (.call (.ref f) ar) (CR C out P w H s Q E) s
section
variable {P : Program} {w : World} {K : PySem.W.Frag} {mg : Str → Option Value} {base : Heap} {C : CXT} {k : Nat} {f : Addr} {fd : FuncData} {ps : List Str} {sp : Sp}
theorem FnG.up {j : Nat} (F : FnG P w K mg base C j f fd ps sp) (h : j ≤ k) : FnG P w K mg base C k f fd ps sp :=
  ⟨F.ln, fun A out s H ar us vs Q E hg hr => F.go A out s H ar us vs Q E hg (hr.mono h)⟩
/-- its body keeps the promise -/
theorem fnG_of {nm ql : Str} {pa : Arguments} {bd : List Stmt} {sc : Scope} {dv kv dc pm cv ct oc : Value} {an od : Option Addr} {sl : Array (Option Value)} {N : List Str}
    (lk : K.lookup f = some ⟨oc, od, .func (PySem.W.fnOf nm ql pa bd sc dv kv dc pm an cv ct), sl⟩) (hc : PySem.W.codeIn K cv ql = true) (S : FnScope N ps sc) (ln : ∀ vs H Q E, sp vs H Q E → vs.length = ps.length)
    (hb : ∀ (A : Around) (out : List Env) (s : Shared) (H : Hp) (vs : List V) (Q : VK) (E : XK), A.guards = some [] → Room k (A.deeper (envOfC ql sc s.heap.objs.size f cv)) → sp vs H Q E →
      ∃ t, PSs (cxOf C P w K mg base N ql sc f cv A out s H E) bd t ∧ t { nx := fun _ H' => Q .non H', rt := Q } (start N vs) H) :
    FnG P w K mg base C (k + 1) f (PySem.W.fnOf nm ql pa bd sc dv kv dc pm an cv ct) ps sp := by
  refine ⟨ln, ?_⟩
  intro A out s H ar us vs Q E hg hr e0 hbd r hsp
  have hlen := ln _ _ _ _ hsp
  have hK : K.In s.heap := e0.mod.kin.keeps (fun b o e => (e0.bs b o e).1)
  have hlim : s.heap.NoLimit := e0.mod.nolimit.keeps (fun b o e => (e0.bs b o e).1)
  have hki : ∀ z ∈ ps.zip us, sc.names.lookup z.1 = some .local ∨ (sc.names.lookup z.1 = some .cell ∧ ((cellsFrom (s.heap.objs.size + 1) sc.names []).lookup z.1).isSome = true) := by
    rintro ⟨n, v⟩ hz
    rcases S.par n (List.of_mem_zip hz).1 with h | h
    · exact Or.inl h
    · exact Or.inr ⟨h, PySem.W.cellsFrom_some _ _ _ (Or.inl h)⟩
  refine codeAny_call_function hr.depth (hK _ _ lk) rfl S.co S.gen rfl (PySem.W.codeRec_of hK hc) (hbd _ _ _ _ ?_)
  refine wpAny_newFunctionEnv_cells S.kind hki (fun en hen sB xi => ?_)
  subst hen
  refine ⟨hlim.keeps xi.toInCall.keep, codeAny_func ?_⟩
  obtain ⟨t, ht, hq⟩ := hb A out s H vs Q E hg (hr.deeper _) hsp
  have J0 : Inv (cxOf C P w K mg base N ql sc f cv A out s H E) [] (start N vs) H sB := inv_start S hr.hd e0 hlen r xi
  refine wpAny_mono (ht.run [] sB (start N vs) H _ J0 hq) (fun fl sE hE => ?_) (fun e sE hE => hE)
  cases fl with
  | ret u =>
    obtain ⟨v, τ, HE, J, rv, q⟩ := hE
    exact ⟨v, HE, J.os, J.bare, J.base, J.hok, rv, q⟩
  | next =>
    obtain ⟨τ, HE, J, q⟩ := hE
    exact ⟨V.non, HE, J.os, J.bare, J.base, J.hok, (rfl : RelV .non Value.none), q⟩
  | brk => exact hE.elim fun _ z => z.elim fun _ z => z.2.elim
  | cont => exact hE.elim fun _ z => z.elim fun _ z => z.2.elim
end
section
variable {P : Program} {w : World} {K : PySem.W.Frag} {mg : Str → Option Value} {base : Heap}
theorem funG {x ql : Str} {st : Stmt} {f : Addr} {fd : FuncData} {N ps : List Str} {k : Nat} {sp : Sp} (F : Fun K x ql st f fd) (S : FnScope N ps (defScope st)) (ln : ∀ vs H Q E, sp vs H Q E → vs.length = ps.length)
    (hb : ∀ (cv : Value) (A : Around) (out : List Env) (s : Shared) (H : Hp) (vs : List V) (Q : VK) (E : XK), A.guards = some [] → Room k (A.deeper (envOfC ql (defScope st) s.heap.objs.size f cv)) → sp vs H Q E →
      ∃ t, PSs (cxOf CX0 P w K mg base N ql (defScope st) f cv A out s H E).nox (defBody st) t ∧ t { nx := fun _ H' => Q .non H', rt := Q } (start N vs) H) : FnG P w K mg base CX0 (k + 1) f fd ps sp := by
  obtain ⟨oc, od, kv, dc, pm, an, cv, ct, sl, rfl, lk, hc⟩ := F.ex
  exact fnG_of lk hc S ln fun A out s H vs Q E hg hr hsp => let ⟨t, h, q⟩ := hb cv A out s H vs Q E hg hr hsp; ⟨t, h.nox, q⟩
end
section
variable {X : Cx} {C : CXT} {k : Nat} {f : Addr} {fd : FuncData} {ps : List Str} {sp : Sp} {dvs : List V} {ds : List Value} {E : XK} {x : Str} {p pos : Pos} {e : Expr} {es : List Expr} {t : TA}
theorem run_G {pins : List (Addr × Obj)} {σ : L2.St} {H : Hp} {s : Shared} {Q : VK} {us : List Value} {vs : List V} (F : FnG X.prog X.w X.K X.mg X.base C k f fd ps sp) (hg : X.A.guards = some []) (hr : Room k X.A) (hb : Binds X.K fd ps ds) (hd : Vals dvs ds) (hx : Passes C X E)
    (I : L2.Inv X pins σ H s) (r : Vals vs us) (h : sp (vs ++ dvs) H Q E) : wpAny (model X.prog X.w) X.A (call (.ref f) us) (EP X pins σ Q) X.xe s := by
  have rr : Vals (vs ++ dvs) (us ++ ds) := r.append hd
  have hl : (us ++ ds).length = ps.length := rr.length.symm.trans (F.ln _ _ _ _ h)
  refine wpAny_call (codeAny_mono (F.go X.A X.stack s H ⟨us, []⟩ (us ++ ds) (vs ++ dvs) Q E hg hr I.env0 (hb s us I.kIn hl) rr h) (fun r sE hE => ?_))
  match r, hE with
  | .error e, hE => exact hx pins σ H s e sE I hE
  | .ok (.ret u), hE => exact I.after hE
theorem pe_callG (F : FnG X.prog X.w X.K X.mg X.base C k f fd ps sp) (hg : X.A.guards = some []) (hr : Room k X.A) (hgl : Gl X x) (hm : X.mg x = some (.ref f)) (hk : PySem.W.keepIn X.K (.ref f) = true) (hb : Binds X.K fd ps ds) (hd : Vals dvs ds) (hx : Passes C X E)
    (ha : PA X (e :: es) t) (hdb : (x == ("__debug__" : Str)) = false := by decide) (he : starEach (e :: es) X.env = (false, eval e X.env) :: starEach es X.env := by rfl) (hpl : (backTo pos (starEach es X.env)).any (·.1) = false := by rfl) :
    PE X (.Call (.Name x p) (e :: es) [] pos) (tCall sp dvs E t) := by
  constructor
  intro pins s σ H Q I h
  refine wpAny_Call_Name_kw (ld_glob I hgl hm ?_ hdb)
  exact PySem.W.callWith_K (h₀ := X.base) I.ok.mod.kin hk (thn (ha.run pos pins s σ H _ I h) (fun us sB ⟨vs, HB, J, r, q⟩ => ⟨J.kIn, run_G F hg hr hb hd hx J r q⟩)) he hpl
end

/-! ## the law's promise at the heap behind the top -/
/-- the modules' dict stands in the ground -/
def Mods (b : Heap) : Prop := ∃ mm, b.Ns sysModules mm
/-- a law that may ask for reprs, from what its def promises -/
theorem law_G {P : Program} {w : World} {K : PySem.W.Frag} {mg mb : Str → Option Value} {C : CXT} {k : Nat} {fa a : Addr} {fd : FuncData} {x : Str} {sp : Sp} {s : Shared} {vs : List Value} {ns : List Int}
    (KX : K.In s.heap) (hmod : Mods s.heap) (hns : s.heap.Ns mainGlobals mg) (hb : s.heap.Ns builtinsNs mb) (hbb : ∀ x : Str, x ≠ "__name__" → mb x = bootBuiltins x) (hlim : s.heap.NoLimit) (hgen : s.gens = #[])
    (ha : s.heap.get? a = some { cls := .type "list", data := .seq vs.toArray }) (hi : IntsAre vs ns) (hl : ns.length ≤ sizeLine) (hr : Room k callerA)
    (F : ∀ b : Heap, K.In b → b.Ns mainGlobals mg → Mods b → FnG P w K mg b C k fa fd [x] sp) (hbind : ∀ (s : Shared) (u : Value), BindsTo s fd ⟨[u], []⟩ [(x, u)])
    (hsp : ∀ H : Hp, Only H → SqL K H a (ns.map V.int) → sp [.ref a] H (fun v _ => v = .bl true) fun _ _ _ => False)
    (hC : ∀ H e s', C [] H s (fun _ _ _ => False) e s' → False) :
    codeAny (model P w) callerA (.call (.ref fa) ⟨[.ref a], []⟩) (fun r s' => r = .ok (.ret (.bool true)) ∧ OldK s.heap s'.heap ∧ s'.os = s.os ∧ AllBare s'.gens) s := by
  have rv := vals_ints hi
  have lv := hi.length
  -- H tracks nothing, or the script alone
  suffices core : ∀ H : Hp, Only H → SqL K H a (ns.map V.int) → HOk P w H s.heap → (∀ b, H b ≠ none → b = a) → (H a ≠ none → K.lookup a = none) →
      codeAny (model P w) callerA (.call (.ref fa) ⟨[.ref a], []⟩) (fun r s' => r = .ok (.ret (.bool true)) ∧ OldK s.heap s'.heap ∧ s'.os = s.os ∧ AllBare s'.gens) s by
    cases hk : K.lookup a with
    | some o =>
      have e := (KX a o hk).symm.trans ha
      cases e
      exact core (fun _ => none) (fun _ => .inl rfl) (.inr ⟨_, vs.toArray, _, hk, rfl, rfl, rfl, by rw [List.size_toArray, lv]; exact hl, by simpa using rv⟩) (fun b u z => nomatch z) (fun b z => absurd rfl z) (fun z => absurd rfl z)
    | none =>
      let o : HO := .frz { cls := .type "list", data := .seq vs.toArray } (.lst (ns.map V.int))
      have at_a : ∀ {b u}, upd (fun _ => none) a o b = some u → b = a ∧ u = o := fun {b u} z => by
        by_cases hba : b = a
        · subst hba
          rw [upd_same] at z
          exact ⟨rfl, (Option.some.inj z).symm⟩
        · rw [upd_ne hba] at z
          exact nomatch z
      have uo : upd (fun _ => none) a o a = some (.frz { cls := .type "list", data := .seq vs.toArray } (.lst (ns.map V.int))) := upd_same
      refine core (upd (fun _ => none) a o) (fun b => ?_) (.inl (.inr ⟨_, uo⟩)) (fun b u z => ?_) (fun b z => ?_) (fun _ => hk)
      · by_cases hba : b = a
        · subst hba
          exact Or.inr ⟨_, _, uo⟩
        · exact .inl (upd_ne hba)
      · obtain ⟨rfl, rfl⟩ := at_a z
        exact ⟨ha, by rw [List.length_map]; exact hl, vs, _, rv, ha⟩
      · cases q : upd (fun _ => none) a o b with
        | none => exact absurd q z
        | some u => exact (at_a q).1
  intro H hO hS hok hA hKa
  have low : ∀ {b : Addr} {o : Obj}, s.heap.get? b = some o → (H b ≠ none → False) → (hidT s.heap H).get? b = some o := fun {b o} e n => by
    refine hidT_get e ?_
    cases q : H b with
    | none => rfl
    | some u => exact (n (by rw [q]; exact nofun)).elim
  have nsK : ∀ {b : Addr} {m : Str → Option Value}, s.heap.Ns b m → (hidT s.heap H).Ns b m := by
    rintro b m ⟨o, es, ep, e, d, r⟩
    refine ⟨o, es, ep, low e (fun n => ?_), d, r⟩
    have eb := hA b n
    subst eb
    have eo := e.symm.trans ha
    cases eo
    cases (show Data.seq vs.toArray _ = Data.dict es ep from d)
  have hKb : K.In (hidT s.heap H) := fun b o e => low (KX b o e) (fun n => by
    have eb := hA b n
    subst eb
    rw [hKa n] at e
    cases e)
  obtain ⟨mc, hm1, hm2⟩ := hlim
  have hM : Mod K mg (hidT s.heap H) := ⟨hKb, nsK hns, ⟨mb, nsK hb, hbb⟩, mc, nsK hm1, hm2⟩
  have e0 : Env0 P w K mg (hidT s.heap H) callerA [] s H := ⟨rfl, hM, fun b o e => of_hidT e, Nat.le_of_eq (hidT_size _ _), trivial, fun b hb => (List.not_mem_nil hb).elim, hok, .of_eq hgen⟩
  refine codeAny_mono ((F _ hKb (nsK hns) (hmod.imp fun mm h => nsK h)).go callerA [] s H ⟨[.ref a], []⟩ [.ref a] [.ref a] _ _ rfl hr e0 (hbind s (.ref a)) (.cons rfl .nil) (hsp H hO hS)) (fun r s' h => ?_)
  match r, h with
  | .error e, h => exact (hC H e s' h).elim
  | .ok (.ret u), h =>
    obtain ⟨v, HE, os, bare, un, hokE, rr, q⟩ := h
    obtain rfl : v = .bl true := q
    obtain rfl : u = Value.bool true := rr
    refine ⟨rfl, OldK.of_keep (fun b o e => ?_), os, bare⟩
    rcases hO b with z | ⟨ob, xs, z⟩
    · exact un.keep b o e z (fun z => (List.not_mem_nil z).elim) (fun z => (List.not_mem_nil z).elim)
    · have e1 := (hok b _ z).1
      have e2 := (hokE b _ (un.frzs b ob _ z)).1
      rw [e] at e1
      cases e1
      exact e2
theorem walk_G {l : PySem.W.OpenLaw} {n k : Nat} {q : Program} {lo : List Str} {XP : (Str → Option Value) → Heap → Prop} {YP : World → Heap → Prop} {d : DefRec} {K : Params → PySem.W.Frag} {C : World → CXT} {sp : World → Sp} {x : Str}
    (hn : l.most = some n) (hz : n ≤ sizeLine) (hi : PyProof.Rows.importsNone q = true) (hdf : d.params.defaults = []) (hr : Room k callerA) (hY : ∀ (w : World) (h : Heap), YP w h → (K w.params).In h)
    (F : ∀ (w : World) (mg : Str → Option Value) (fa : Addr) (h : Heap), (K w.params).In h → h.Ns mainGlobals mg → mg d.name = some (.ref fa) →
      ∃ fd : FuncData, (∀ (s : Shared) (u : Value), BindsTo s fd ⟨[u], []⟩ [(x, u)]) ∧ ∀ b : Heap, (K w.params).In b → b.Ns mainGlobals mg → Mods b → FnG l.prog w (K w.params) mg b (C w) k fa fd [x] (sp w))
    (hsp : ∀ (w : World) (H : Hp) (a : Addr) (ns : List Int), ns.length ≤ n → Only H → SqL (K w.params) H a (ns.map V.int) → sp w [.ref a] H (fun v _ => v = .bl true) fun _ _ _ => False)
    (hC : ∀ (w : World) (H : Hp) (s : Shared) (e : Value) (s' : Shared), C w [] H s (fun _ _ _ => False) e s' → False) :
    PySem.W.WalkO q lo XP YP l.row.toRowW d [] (fun f vs => PySem.call f vs) := by
  refine Att.attach_call hn hdf ?_
  intro w s0 s1 mg mb fa o pm cd doc a vs ns G Y ho hd hcd hmg hob hin hle hgn
  obtain ⟨fd, hb, hF⟩ := F w mg fa _ (hY w _ Y) G.T.g hmg
  exact law_G (hY w _ Y) ((G.T.seer hi).mods.imp fun _ h => h.1) G.T.g G.T.b G.T.builtins G.T.nolimit hgn hob hin (Nat.le_trans hle hz) hr hF hb (fun H hO hS => hsp w H a ns hle hO hS) (fun H e s' => hC w H s1 e s')
end BK

namespace BK
open PySem PySem.Spec PyProof.Rows L2

/-! ## reprs of handed things -/
mutual
def Dt.py : Dt → PyData
  | .non => .none
  | .bl b => .bool b
  | .int i => .int i
  | .str w => .str (tx w)
  | .lst ds => .list (pyAll ds)
  | .tup ds => .tuple (pyAll ds)
  | .dic => .dict []
def pyAll : List Dt → List PyData
  | [] => []
  | d :: ds => d.py :: pyAll ds
end
mutual
/-- what has a short repr; no dict within -/
def Fits : Dt → Prop
  | .non => True
  | .bl _ => True
  | .int i => i.natAbs < 10 ^ 47
  | .str w => ∀ c ∈ w, c < 4294967296
  | .lst ds => FitsAll ds
  | .tup ds => FitsAll ds
  | .dic => False
def FitsAll : List Dt → Prop
  | [] => True
  | d :: ds => Fits d ∧ FitsAll ds
end
mutual
def deep : Dt → Nat
  | .lst ds => deepAll ds + 1
  | .tup ds => deepAll ds + 1
  | .dic => 1
  | _ => 0
def deepAll : List Dt → Nat
  | [] => 0
  | d :: ds => max (deep d) (deepAll ds)
end
mutual
def bulk : Dt → Nat
  | .str w => w.length
  | .lst ds => bulkAll ds
  | .tup ds => bulkAll ds
  | _ => 0
def bulkAll : List Dt → Nat
  | [] => 0
  | d :: ds => bulk d + 1 + bulkAll ds
end
theorem fitsAll_of : ∀ {ds : List Dt}, (∀ d ∈ ds, Fits d) → FitsAll ds
  | [], _ => by unfold FitsAll; trivial
  | d :: ds, h => by unfold FitsAll; exact ⟨h d (List.mem_cons_self ..), fitsAll_of fun x hx => h x (List.mem_cons_of_mem _ hx)⟩
theorem deepAll_le {n : Nat} : ∀ {ds : List Dt}, (∀ d ∈ ds, deep d ≤ n) → deepAll ds ≤ n
  | [], _ => by unfold deepAll; exact Nat.zero_le _
  | d :: ds, h => by
    unfold deepAll
    have h1 := h d (List.mem_cons_self ..)
    have h2 := deepAll_le (n := n) (ds := ds) fun x hx => h x (List.mem_cons_of_mem _ hx)
    omega
theorem bulkAll_le {n : Nat} : ∀ {ds : List Dt}, (∀ d ∈ ds, bulk d ≤ n) → bulkAll ds ≤ ds.length * (n + 1)
  | [], _ => by unfold bulkAll; exact Nat.zero_le _
  | d :: ds, h => by
    unfold bulkAll
    have h1 := h d (List.mem_cons_self ..)
    have h2 := bulkAll_le (n := n) (ds := ds) fun x hx => h x (List.mem_cons_of_mem _ hx)
    rw [List.length_cons, Nat.add_mul, Nat.one_mul]
    omega
mutual
theorem depth_py : ∀ d : Dt, d.py.depth = deep d
  | .non => by simp only [Dt.py, PyData.depth, deep]
  | .bl _ => by simp only [Dt.py, PyData.depth, deep]
  | .int _ => by simp only [Dt.py, PyData.depth, deep]
  | .str _ => by simp only [Dt.py, PyData.depth, deep]
  | .lst ds => by simp only [Dt.py, PyData.depth, deep, depth_all ds]
  | .tup ds => by simp only [Dt.py, PyData.depth, deep, depth_all ds]
  | .dic => by simp only [Dt.py, PyData.depth, PyData.depthKv, deep]
theorem depth_all : ∀ ds : List Dt, PyData.depthAll (pyAll ds) = deepAll ds
  | [] => by simp only [pyAll, PyData.depthAll, deepAll]
  | d :: ds => by simp only [pyAll, PyData.depthAll, deepAll, depth_py d, depth_all ds]
end
mutual
theorem bulk_py : ∀ d : Dt, d.py.bulk = bulk d
  | .non => by simp only [Dt.py, PyData.bulk, bulk]
  | .bl _ => by simp only [Dt.py, PyData.bulk, bulk]
  | .int _ => by simp only [Dt.py, PyData.bulk, bulk]
  | .str w => by simp only [Dt.py, PyData.bulk, bulk, tx, List.size_toArray]
  | .lst ds => by simp only [Dt.py, PyData.bulk, bulk, bulk_all ds]
  | .tup ds => by simp only [Dt.py, PyData.bulk, bulk, bulk_all ds]
  | .dic => by simp only [Dt.py, PyData.bulk, PyData.bulkKv, bulk]
theorem bulk_all : ∀ ds : List Dt, PyData.bulkAll (pyAll ds) = bulkAll ds
  | [] => by simp only [pyAll, PyData.bulkAll, bulkAll]
  | d :: ds => by simp only [pyAll, PyData.bulkAll, bulkAll, bulk_py d, bulk_all ds]
end
theorem int48 {i : Int} (h : i.natAbs < 10 ^ 47) : (PyData.shown (.int i)).length ≤ 48 := by
  show (Str.ofString (toString i)).length ≤ 48
  rw [PySem.ofString_length]
  exact int_text_length_le10 (k := 47) (by decide) h
theorem int_log {i : Int} (h : i.natAbs < 10 ^ 47) : i.natAbs.log2 < 1920 := by
  have h2 : i.natAbs < 2 ^ 160 := Nat.lt_of_lt_of_le h (by decide)
  by_cases h0 : i.natAbs = 0
  · rw [h0]
    decide
  · have := (Nat.log2_lt h0).mpr h2
    omega
mutual
theorem fits_short : ∀ d : Dt, Fits d → d.py.leavesShort 48 = true
  | .non, _ => by simp only [Dt.py, PyData.leavesShort]
  | .bl _, _ => by simp only [Dt.py, PyData.leavesShort]
  | .int i, h => by
    unfold Fits at h
    simp only [Dt.py, PyData.leavesShort, decide_eq_true_eq]
    exact int48 h
  | .str w, h => by
    unfold Fits at h
    simp only [Dt.py, PyData.leavesShort, tx_cps, List.all_eq_true, decide_eq_true_eq]
    exact fun c hc => h c hc
  | .lst ds, h => by
    unfold Fits at h
    simp only [Dt.py, PyData.leavesShort]
    exact fitsAll_short ds h
  | .tup ds, h => by
    unfold Fits at h
    simp only [Dt.py, PyData.leavesShort]
    exact fitsAll_short ds h
  | .dic, h => by unfold Fits at h; exact h.elim
theorem fitsAll_short : ∀ ds : List Dt, FitsAll ds → PyData.leavesShortAll 48 (pyAll ds) = true
  | [], _ => by simp only [pyAll, PyData.leavesShortAll]
  | d :: ds, h => by
    unfold FitsAll at h
    simp only [pyAll, PyData.leavesShortAll, Bool.and_eq_true]
    exact ⟨fits_short d h.1, fitsAll_short ds h.2⟩
end
mutual
theorem fits_show : ∀ d : Dt, Fits d → d.py.showable = true ∧ d.py.hasDict = false
  | .non, _ => by simp only [Dt.py, PyData.showable, PyData.hasDict, and_self]
  | .bl _, _ => by simp only [Dt.py, PyData.showable, PyData.hasDict, and_self]
  | .int i, h => by
    unfold Fits at h
    simp only [Dt.py, PyData.showable, PyData.hasDict, decide_eq_true_eq, and_true]
    exact int_log h
  | .str w, h => by simp only [Dt.py, PyData.showable, PyData.hasDict, and_self]
  | .lst ds, h => by
    unfold Fits at h
    simp only [Dt.py, PyData.showable, PyData.hasDict]
    exact fitsAll_show ds h
  | .tup ds, h => by
    unfold Fits at h
    simp only [Dt.py, PyData.showable, PyData.hasDict]
    exact fitsAll_show ds h
  | .dic, h => by unfold Fits at h; exact h.elim
theorem fitsAll_show : ∀ ds : List Dt, FitsAll ds → PyData.showableAll (pyAll ds) = true ∧ PyData.hasDictAll (pyAll ds) = false
  | [], _ => by simp only [pyAll, PyData.showableAll, PyData.hasDictAll, and_self]
  | d :: ds, h => by
    unfold FitsAll at h
    have h1 := fits_show d h.1
    have h2 := fitsAll_show ds h.2
    simp only [pyAll, PyData.showableAll, PyData.hasDictAll, h1.1, h1.2, h2.1, h2.2, Bool.and_self, Bool.or_self, and_self]
end
section
variable {X : Cx} {pins : List (Addr × Obj)} {σ : L2.St} {H : Hp} {s : Shared}
mutual
theorem reads_at (I : L2.Inv X pins σ H s) : ∀ (d : Dt) (v : V) (u : Value), At X.K H v d → RelV v u → Fits d → ∃ as, Reads s.heap u d.py as
  | .non, v, u, h, r, _ => by
    unfold At at h
    subst h
    cases (show u = Value.none from r)
    simp only [Dt.py]
    exact ⟨_, .none⟩
  | .bl b, v, u, h, r, _ => by
    unfold At at h
    subst h
    cases (show u = Value.bool b from r)
    simp only [Dt.py]
    exact ⟨_, .bool b⟩
  | .int i, v, u, h, r, _ => by
    unfold At at h
    subst h
    obtain ⟨t, rfl⟩ := r
    simp only [Dt.py]
    exact ⟨_, .int i t⟩
  | .str w, v, u, h, r, _ => by
    unfold At at h
    obtain ⟨rfl, _⟩ := h
    obtain ⟨t, rfl⟩ := r
    simp only [Dt.py]
    exact ⟨_, .str _ t⟩
  | .lst ds, v, u, h, r, f => by
    unfold At at h
    unfold Fits at f
    obtain ⟨a, xs, rfl, h1, h2⟩ := h
    cases (show u = Value.ref a from r)
    obtain ⟨its, rv, ⟨o, n, e1, e2, _, e3⟩, _⟩ := I.list h1
    obtain ⟨as, k⟩ := reads_ats I ds xs its h2 rv f
    simp only [Dt.py]
    exact ⟨_, .list e1 e2 e3 (by rw [List.toList_toArray]; exact k)⟩
  | .tup ds, v, u, h, r, f => by
    unfold At at h
    unfold Fits at f
    obtain ⟨a, xs, rfl, h1, h2⟩ := h
    cases (show u = Value.ref a from r)
    obtain ⟨its, rv, ⟨o, e1, e2, n, e3⟩, _⟩ := I.tuple h1
    obtain ⟨as, k⟩ := reads_ats I ds xs its h2 rv f
    simp only [Dt.py]
    exact ⟨_, .tuple e1 e2 e3 (by rw [List.toList_toArray]; exact k)⟩
  | .dic, v, u, h, r, f => by unfold Fits at f; exact f.elim
theorem reads_ats (I : L2.Inv X pins σ H s) : ∀ (ds : List Dt) (vs : List V) (us : List Value), Ats X.K H vs ds → Vals vs us → FitsAll ds → ∃ as, ReadsAll s.heap us (pyAll ds) as
  | [], vs, us, h, r, _ => by
    unfold Ats at h
    subst h
    cases r
    simp only [pyAll]
    exact ⟨_, .nil⟩
  | d :: ds, vs, us, h, r, f => by
    unfold Ats at h
    unfold FitsAll at f
    obtain ⟨v, ws, rfl, h1, h2⟩ := h
    cases r with
    | cons r1 r2 =>
      obtain ⟨a1, k1⟩ := reads_at I d v _ h1 r1 f.1
      obtain ⟨a2, k2⟩ := reads_ats I ds ws _ h2 r2 f.2
      simp only [pyAll]
      exact ⟨_, .cons k1 k2⟩
end
end
/-- a thing's repr -/
def shw (d : Dt) : Str := d.py.shown
def Neat (d : Dt) : Prop := Fits d ∧ deep d ≤ 60 ∧ bulk d ≤ 300000
theorem neat_size {d : Dt} (h : Neat d) : (shw d).length ≤ sizeLine := by
  have h1 := PyData.shown_le_bulk 48 (by decide) d.py (fits_short d h.1)
  rw [bulk_py] at h1
  have h2 : (48 + 2) * bulk d ≤ 50 * 300000 := Nat.mul_le_mul (Nat.le_refl _) h.2.2
  have h3 : sizeLine = 16777216 := by decide
  unfold shw
  omega
def rRepr (K : PySem.W.Frag) : List V → Hp → VK → Prop := fun xs H Q => ∃ (p : Addr) (d : Dt), xs = [.ref p] ∧ At K H (.ref p) d ∧ Neat d ∧ Q (.str (shw d)) H
theorem call_reprG {X : Cx} (hg : X.A.guards = some []) (hu : X.A.units + 64 < cLine) : CallR X (.builtin "repr") (rRepr X.K) := by
  intro pins s σ H xs us Q I r h
  obtain ⟨p, d, rfl, hat, hn, q⟩ := h
  obtain ⟨u, rfl, rp⟩ := vals1 r
  cases (show u = Value.ref p from rp)
  obtain ⟨as, rd⟩ := reads_at I d _ _ hat rfl hn.1
  have hs := fits_show d hn.1
  refine repr_of_reads' rd hs.1 (fun z => absurd z (by rw [hs.2]; exact Bool.false_ne_true)) hg (by rw [depth_py]; have := hn.2.1; omega) (fun _ _ e => e) (fun h' t tk hk => ?_) (neat_size hn)
  exact ⟨.str (shw d), H, I.kept (t' := tk) (fun b o e => hk b o e), ⟨t, rfl⟩, q⟩
end BK

namespace BK
open PySem PySem.Spec PyProof.Rows L2

/-! ## things, lists and tuples not told apart -/
mutual
def norm : Dt → Dt
  | .lst ds => .lst (normAll ds)
  | .tup ds => .lst (normAll ds)
  | .non => .non
  | .bl b => .bl b
  | .int i => .int i
  | .str w => .str w
  | .dic => .dic
def normAll : List Dt → List Dt
  | [] => []
  | d :: ds => norm d :: normAll ds
end
theorem normAll_map : ∀ ds : List Dt, normAll ds = ds.map norm
  | [] => by simp only [normAll, List.map_nil]
  | d :: ds => by simp only [normAll, List.map_cons, normAll_map ds]
mutual
theorem norm_norm : ∀ d : Dt, norm (norm d) = norm d
  | .lst ds => by simp only [norm, normAll_normAll ds]
  | .tup ds => by simp only [norm, normAll_normAll ds]
  | .non => by simp only [norm]
  | .bl b => by simp only [norm]
  | .int i => by simp only [norm]
  | .str w => by simp only [norm]
  | .dic => by simp only [norm]
theorem normAll_normAll : ∀ ds : List Dt, normAll (normAll ds) = normAll ds
  | [] => by simp only [normAll]
  | d :: ds => by simp only [normAll, norm_norm d, normAll_normAll ds]
end
theorem row_norm (d : Dt) : isRow (norm d) = isRow d := by cases d <;> simp only [norm, isRow]
theorem items_norm (d : Dt) : (norm d).items = d.items.map norm := by cases d <;> simp only [norm, Dt.items, normAll_map, List.map_nil]
theorem whole_norm (d : Dt) (lo : Int) : isWhole (norm d) lo = isWhole d lo := by cases d <;> simp only [norm, isWhole]
theorem within_norm (d : Dt) (lo hi : Int) : isWithin (norm d) lo hi = isWithin d lo hi := by cases d <;> simp only [norm, isWithin]
theorem word_norm (d : Dt) : isWord (norm d) = isWord d := by cases d <;> simp only [norm, isWord]
theorem plain_norm (d : Dt) : isPlain (norm d) = isPlain d := by cases d <;> simp only [norm, isPlain]
theorem piece_norm (d : Dt) : isPiece (norm d) = isPiece d := by
  unfold isPiece
  rw [row_norm, items_norm]
  congr 1
  match d.items with
  | [] => rfl
  | [a] => rfl
  | [a, b] =>
    show (isWord (norm a) && isWhole (norm b) 1) = (isWord a && isWhole b 1)
    rw [word_norm, whole_norm]
  | a :: b :: c :: r => rfl
theorem pcOf_norm (d : Dt) : pcOf (norm d) = pcOf d := by
  unfold pcOf
  rw [items_norm]
  match d.items with
  | [] => rfl
  | [a] => cases a <;> simp only [norm, List.map_cons, List.map_nil]
  | [a, b] => cases a <;> cases b <;> simp only [norm, List.map_cons, List.map_nil]
  | a :: b :: c :: r => cases a <;> cases b <;> simp only [norm, List.map_cons]
theorem pieceSize_norm (d : Dt) : pieceSize (norm d) = pieceSize d := by
  unfold pieceSize
  rw [items_norm]
  match d.items with
  | [] => rfl
  | [a] => cases a <;> simp only [norm, List.map_cons, List.map_nil]
  | [a, b] => cases a <;> cases b <;> simp only [norm, List.map_cons, List.map_nil]
  | a :: b :: c :: r => cases a <;> cases b <;> simp only [norm, List.map_cons]
theorem isText_norm (d : Dt) : isText (norm d) = isText d := by
  unfold isText
  rw [row_norm, items_norm, List.length_map, List.all_map, List.map_map]
  have e1 : (isPiece ∘ norm) = isPiece := funext piece_norm
  have e2 : (pieceSize ∘ norm) = pieceSize := funext pieceSize_norm
  rw [e1, e2]
theorem pcs_norm (d : Dt) : pcs (norm d) = pcs d := by
  unfold pcs
  rw [items_norm, List.map_map, show (pcOf ∘ norm) = pcOf from funext pcOf_norm]
theorem isText_like {d e : Dt} (h : norm e = norm d) : isText e = isText d := by rw [← isText_norm, h, isText_norm]
theorem pcs_like {d e : Dt} (h : norm e = norm d) : pcs e = pcs d := by rw [← pcs_norm, h, pcs_norm]
mutual
theorem fits_norm : ∀ d : Dt, Fits (norm d) = Fits d
  | .lst ds => by simp only [norm, Fits, fitsAll_norm ds]
  | .tup ds => by simp only [norm, Fits, fitsAll_norm ds]
  | .non => by simp only [norm]
  | .bl b => by simp only [norm]
  | .int i => by simp only [norm]
  | .str w => by simp only [norm]
  | .dic => by simp only [norm]
theorem fitsAll_norm : ∀ ds : List Dt, FitsAll (normAll ds) = FitsAll ds
  | [] => by simp only [normAll]
  | d :: ds => by simp only [normAll, FitsAll, fits_norm d, fitsAll_norm ds]
end
mutual
theorem deep_norm : ∀ d : Dt, deep (norm d) = deep d
  | .lst ds => by simp only [norm, deep, deepAll_norm ds]
  | .tup ds => by simp only [norm, deep, deepAll_norm ds]
  | .non => by simp only [norm]
  | .bl b => by simp only [norm]
  | .int i => by simp only [norm]
  | .str w => by simp only [norm]
  | .dic => by simp only [norm]
theorem deepAll_norm : ∀ ds : List Dt, deepAll (normAll ds) = deepAll ds
  | [] => by simp only [normAll]
  | d :: ds => by simp only [normAll, deepAll, deep_norm d, deepAll_norm ds]
end
mutual
theorem bulk_norm : ∀ d : Dt, bulk (norm d) = bulk d
  | .lst ds => by simp only [norm, bulk, bulkAll_norm ds]
  | .tup ds => by simp only [norm, bulk, bulkAll_norm ds]
  | .non => by simp only [norm]
  | .bl b => by simp only [norm]
  | .int i => by simp only [norm]
  | .str w => by simp only [norm]
  | .dic => by simp only [norm]
theorem bulkAll_norm : ∀ ds : List Dt, bulkAll (normAll ds) = bulkAll ds
  | [] => by simp only [normAll]
  | d :: ds => by simp only [normAll, bulkAll, bulk_norm d, bulkAll_norm ds]
end
theorem neat_like {d e : Dt} (h : norm e = norm d) (n : Neat d) : Neat e := by
  refine ⟨?_, ?_, ?_⟩
  · rw [← fits_norm, h, fits_norm]
    exact n.1
  · rw [← deep_norm, h, deep_norm]
    exact n.2.1
  · rw [← bulk_norm, h, bulk_norm]
    exact n.2.2

/-! ## new lists all through: their rooms -/
mutual
def AtF (H : Hp) : V → Dt → List Addr → Prop
  | v, .lst ds, fp => ∃ a xs fs, v = .ref a ∧ H a = some (.lst xs) ∧ AtFs H xs ds fs ∧ fp = a :: fs
  | v, .non, fp => v = .non ∧ fp = []
  | v, .bl b, fp => v = .bl b ∧ fp = []
  | v, .int i, fp => v = .int i ∧ fp = []
  | v, .str w, fp => v = .str (tx w) ∧ w.length ≤ 1000000 ∧ fp = []
  | _, .tup _, _ => False
  | _, .dic, _ => False
def AtFs (H : Hp) : List V → List Dt → List Addr → Prop
  | vs, [], fp => vs = [] ∧ fp = []
  | vs, d :: ds, fp => ∃ v us f fs, vs = v :: us ∧ AtF H v d f ∧ AtFs H us ds fs ∧ fp = f ++ fs
end
mutual
theorem AtF.same {H H' : Hp} : ∀ (d : Dt) (v : V) (fp : List Addr), AtF H v d fp → (∀ b o, b ∈ fp → H b = some o → H' b = some o) → AtF H' v d fp
  | .lst ds, v, fp, h, e => by
    unfold AtF at h ⊢
    obtain ⟨a, xs, fs, rfl, h1, h2, rfl⟩ := h
    exact ⟨a, xs, fs, rfl, e _ _ (List.mem_cons_self ..) h1, AtFs.same ds xs fs h2 (fun b o hb => e b o (List.mem_cons_of_mem _ hb)), rfl⟩
  | .non, v, fp, h, e => by unfold AtF at h ⊢; exact h
  | .bl b, v, fp, h, e => by unfold AtF at h ⊢; exact h
  | .int i, v, fp, h, e => by unfold AtF at h ⊢; exact h
  | .str w, v, fp, h, e => by unfold AtF at h ⊢; exact h
  | .tup _, v, fp, h, e => by unfold AtF at h; exact h.elim
  | .dic, v, fp, h, e => by unfold AtF at h; exact h.elim
theorem AtFs.same {H H' : Hp} : ∀ (ds : List Dt) (vs : List V) (fp : List Addr), AtFs H vs ds fp → (∀ b o, b ∈ fp → H b = some o → H' b = some o) → AtFs H' vs ds fp
  | [], vs, fp, h, e => by unfold AtFs at h ⊢; exact h
  | d :: ds, vs, fp, h, e => by
    unfold AtFs at h ⊢
    obtain ⟨v, us, f, fs, rfl, h1, h2, rfl⟩ := h
    exact ⟨v, us, f, fs, rfl, AtF.same d v f h1 (fun b o hb => e b o (List.mem_append_left _ hb)), AtFs.same ds us fs h2 (fun b o hb => e b o (List.mem_append_right _ hb)), rfl⟩
end
mutual
theorem AtF.at {K : PySem.W.Frag} {H : Hp} : ∀ (d : Dt) (v : V) (fp : List Addr), AtF H v d fp → At K H v d
  | .lst ds, v, fp, h => by
    unfold AtF at h
    obtain ⟨a, xs, fs, rfl, h1, h2, rfl⟩ := h
    unfold At
    exact ⟨a, xs, rfl, SqL.of h1, AtFs.at ds xs fs h2⟩
  | .non, v, fp, h => by unfold AtF at h; unfold At; exact h.1
  | .bl b, v, fp, h => by unfold AtF at h; unfold At; exact h.1
  | .int i, v, fp, h => by unfold AtF at h; unfold At; exact h.1
  | .str w, v, fp, h => by unfold AtF at h; unfold At; exact ⟨h.1, h.2.1⟩
  | .tup _, v, fp, h => by unfold AtF at h; exact h.elim
  | .dic, v, fp, h => by unfold AtF at h; exact h.elim
theorem AtFs.at {K : PySem.W.Frag} {H : Hp} : ∀ (ds : List Dt) (vs : List V) (fp : List Addr), AtFs H vs ds fp → Ats K H vs ds
  | [], vs, fp, h => by unfold AtFs at h; unfold Ats; exact h.1
  | d :: ds, vs, fp, h => by
    unfold AtFs at h
    obtain ⟨v, us, f, fs, rfl, h1, h2, rfl⟩ := h
    unfold Ats
    exact ⟨v, us, rfl, AtF.at d v f h1, AtFs.at ds us fs h2⟩
end
theorem AtFs.snoc {H : Hp} {v : V} {d : Dt} {f : List Addr} (hv : AtF H v d f) : ∀ {ds : List Dt} {vs : List V} {fs : List Addr}, AtFs H vs ds fs → AtFs H (vs ++ [v]) (ds ++ [d]) (fs ++ f)
  | [], vs, fs, h => by
    unfold AtFs at h
    obtain ⟨rfl, rfl⟩ := h
    show AtFs H [v] [d] f
    unfold AtFs
    exact ⟨v, [], f, [], rfl, hv, by unfold AtFs; exact ⟨rfl, rfl⟩, (List.append_nil f).symm⟩
  | c :: ds, vs, fs, h => by
    unfold AtFs at h
    obtain ⟨u, us, g, gs, rfl, h1, h2, rfl⟩ := h
    show AtFs H (u :: (us ++ [v])) (c :: (ds ++ [d])) _
    unfold AtFs
    exact ⟨u, us ++ [v], g, gs ++ f, rfl, h1, AtFs.snoc hv h2, List.append_assoc ..⟩
theorem Ats.snoc {K : PySem.W.Frag} {H : Hp} {v : V} {d : Dt} (hv : At K H v d) : ∀ {ds : List Dt} {vs : List V}, Ats K H vs ds → Ats K H (vs ++ [v]) (ds ++ [d])
  | [], vs, h => by
    unfold Ats at h
    subst h
    show Ats K H [v] [d]
    unfold Ats
    exact ⟨v, [], rfl, hv, by unfold Ats; rfl⟩
  | c :: ds, vs, h => by
    unfold Ats at h
    obtain ⟨u, us, rfl, h1, h2⟩ := h
    show Ats K H (u :: (us ++ [v])) (c :: (ds ++ [d]))
    unfold Ats
    exact ⟨u, us ++ [v], rfl, h1, Ats.snoc hv h2⟩

/-! ## isinstance of handed things -/
theorem At.tyx {K : PySem.W.Frag} {H : Hp} {v : V} {d : Dt} (h : At K H v d) : TyX K H v (.type d.ty) := by
  cases d with
  | non => unfold At at h; subst h; exact .base .non
  | bl b => unfold At at h; subst h; exact .base (.bl b)
  | int i => unfold At at h; subst h; exact .base (.int i)
  | str w => unfold At at h; obtain ⟨rfl, _⟩ := h; exact .base (.str _)
  | lst ds =>
    unfold At at h
    obtain ⟨a, xs, rfl, h1, _⟩ := h
    rcases h1 with (h1 | ⟨o, h1⟩) | ⟨o, its, n, h1, h2, _⟩
    · exact .base (.lst h1)
    · exact .base (.frz h1)
    · exact .kList h1 h2
  | tup ds =>
    unfold At at h
    obtain ⟨a, xs, rfl, h1, _⟩ := h
    rcases h1 with (h1 | ⟨o, h1⟩) | ⟨o, its, n, h1, h2, _⟩
    · exact .base (.tup h1)
    · exact .fTuple h1
    · exact .kTuple h1 h2
  | dic => unfold At at h; obtain ⟨a, rfl, h1⟩ := h; exact .base (.dK h1)
theorem kit_known : ∀ y ∈ knownTy, ∀ n ∈ ["list", "tuple", "bool", "str", "int"], kitB y n = some (decide (y = n) || (decide (y = "bool") && decide (n = "int"))) := by decide +kernel
theorem isi_ty {K : PySem.W.Frag} {H : Hp} {v : V} {d : Dt} {n : String} {Q : VK} (h : At K H v d) (hn : n ∈ ["list", "tuple", "bool", "str", "int"]) (q : Q (.bl (decide (d.ty = n) || (decide (d.ty = "bool") && decide (n = "int")))) H) : rIsi K [v, .ty n] H Q :=
  ⟨v, .ty n, .type d.ty, .type n, _, rfl, .ty n, h.tyx, kit_ty (kit_known _ (ty_known d) n hn), q⟩
theorem isRow_ty (d : Dt) : isRow d = (decide (d.ty = "list") || decide (d.ty = "tuple")) := by cases d <;> simp [isRow, Dt.ty]
theorem isi_row {K : PySem.W.Frag} {H : Hp} {v : V} {d : Dt} {t : Addr} {Q : VK} (h : At K H v d) (ht : H t = some (.tup [.ty "list", .ty "tuple"])) (q : Q (.bl (isRow d)) H) : rIsiT K [v, .ref t] H Q := by
  refine ⟨v, t, _, .type d.ty, _, _, rfl, ht, .cons (.ty "list") (.cons (.ty "tuple") .nil), h.tyx, ?_, q⟩
  rw [isRow_ty]
  refine kitAny_cons (kit_ty (kit_known _ (ty_known d) "list" (by decide))) (fun e => ?_) (fun e => ?_)
  · have e1 : decide (d.ty = "list") = false := by
      cases h : decide (d.ty = "list") with
      | false => rfl
      | true => rw [h] at e; cases e
    rw [e1, Bool.false_or]
    refine kitAny_cons (kit_ty (kit_known _ (ty_known d) "tuple" (by decide))) (fun e2 => ?_) (fun e2 => ?_)
    · have e3 : decide (d.ty = "tuple") = false := by
        cases h : decide (d.ty = "tuple") with
        | false => rfl
        | true => rw [h] at e2; cases e2
      rw [e3]
      rfl
    · rw [show (decide ("tuple" = "int")) = false from by decide, Bool.and_false, Bool.or_false] at e2
      exact e2
  · rw [show (decide ("list" = "int")) = false from by decide, Bool.and_false, Bool.or_false] at e
    rw [e]
    rfl

/-! ## rooms apart -/
mutual
theorem AtF.trk {H : Hp} : ∀ (d : Dt) (v : V) (fp : List Addr), AtF H v d fp → ∀ b ∈ fp, ∃ o, H b = some o
  | .lst ds, v, fp, h => by
    unfold AtF at h
    obtain ⟨a, xs, fs, rfl, h1, h2, rfl⟩ := h
    intro b hb
    rcases List.mem_cons.mp hb with rfl | hb
    · exact ⟨_, h1⟩
    · exact AtFs.trk ds xs fs h2 b hb
  | .non, v, fp, h => by unfold AtF at h; obtain ⟨_, rfl⟩ := h; exact fun b hb => (List.not_mem_nil hb).elim
  | .bl b, v, fp, h => by unfold AtF at h; obtain ⟨_, rfl⟩ := h; exact fun b hb => (List.not_mem_nil hb).elim
  | .int i, v, fp, h => by unfold AtF at h; obtain ⟨_, rfl⟩ := h; exact fun b hb => (List.not_mem_nil hb).elim
  | .str w, v, fp, h => by unfold AtF at h; obtain ⟨_, _, rfl⟩ := h; exact fun b hb => (List.not_mem_nil hb).elim
  | .tup _, v, fp, h => by unfold AtF at h; exact h.elim
  | .dic, v, fp, h => by unfold AtF at h; exact h.elim
theorem AtFs.trk {H : Hp} : ∀ (ds : List Dt) (vs : List V) (fp : List Addr), AtFs H vs ds fp → ∀ b ∈ fp, ∃ o, H b = some o
  | [], vs, fp, h => by unfold AtFs at h; obtain ⟨_, rfl⟩ := h; exact fun b hb => (List.not_mem_nil hb).elim
  | d :: ds, vs, fp, h => by
    unfold AtFs at h
    obtain ⟨v, us, f, fs, rfl, h1, h2, rfl⟩ := h
    intro b hb
    rcases List.mem_append.mp hb with hb | hb
    · exact AtF.trk d v f h1 b hb
    · exact AtFs.trk ds us fs h2 b hb
end
/-- the heap without one thing -/
def hid (p : Addr) (H : Hp) : Hp := fun b => if b = p then none else H b
theorem hid_ne {p b : Addr} {H : Hp} (h : b ≠ p) : hid p H b = H b := if_neg h
theorem hid_at {p b : Addr} {H : Hp} {o : HO} (h : hid p H b = some o) : b ≠ p ∧ H b = some o := by
  by_cases e : b = p
  · rw [show hid p H b = none from if_pos e] at h
    cases h
  · exact ⟨e, (if_neg e).symm.trans h⟩
theorem hid_same (p : Addr) (H : Hp) : Same (hid p H) H := fun _ _ h => (hid_at h).2
theorem hid_mono {p : Addr} {H H' : Hp} (e : Same H H') : Same (hid p H) (hid p H') := fun b o h => by
  obtain ⟨h1, h2⟩ := hid_at h
  rw [hid_ne h1]
  exact e b o h2
theorem hid_upd {p t : Addr} {H : Hp} {o : HO} (h : t ≠ p) : hid p (upd H t o) = upd (hid p H) t o := by
  funext b
  by_cases e : b = p
  · subst e
    rw [upd_ne (fun z => h z.symm)]
    show (if b = b then none else _) = (if b = b then none else _)
    rw [if_pos rfl, if_pos rfl]
  · rw [hid_ne e]
    by_cases e2 : b = t
    · subst e2
      rw [upd_same, upd_same]
    · rw [upd_ne e2, upd_ne e2, hid_ne e]
theorem take_norm {ds : List Dt} {i : Nat} {d : Dt} (h : ds[i]? = some d) : (ds.map norm).take (i + 1) = (ds.map norm).take i ++ [norm d] := by
  rw [List.take_add_one, List.getElem?_map, h]
  rfl
theorem mem_deep {d e : Dt} (h : e ∈ d.items) : deep e + 1 ≤ deep d := by
  have key : ∀ ds : List Dt, e ∈ ds → deep e ≤ deepAll ds := by
    intro ds
    induction ds with
    | nil => intro h; cases h
    | cons c ds ih =>
      intro h
      simp only [deepAll]
      rcases List.mem_cons.mp h with rfl | h
      · omega
      · have := ih h
        omega
  cases d with
  | lst ds => have := key ds h; simp only [deep]; omega
  | tup ds => have := key ds h; simp only [deep]; omega
  | _ => cases h
theorem mem_bulk {d e : Dt} (h : e ∈ d.items) : bulk e + 1 ≤ bulk d := by
  have key : ∀ ds : List Dt, e ∈ ds → bulk e + 1 ≤ bulkAll ds := by
    intro ds
    induction ds with
    | nil => intro h; cases h
    | cons c ds ih =>
      intro h
      simp only [bulkAll]
      rcases List.mem_cons.mp h with rfl | h
      · omega
      · have := ih h
        omega
  cases d with
  | lst ds => have := key ds h; simp only [bulk]; omega
  | tup ds => have := key ds h; simp only [bulk]; omega
  | _ => cases h
theorem len_bulk (d : Dt) : d.items.length ≤ bulk d := by
  have key : ∀ ds : List Dt, ds.length ≤ bulkAll ds := by
    intro ds
    induction ds with
    | nil => exact Nat.zero_le _
    | cons c ds ih => simp only [bulkAll, List.length_cons]; omega
  cases d with
  | lst ds => exact key ds
  | tup ds => exact key ds
  | _ => exact Nat.zero_le _
theorem fitsAll_mem : ∀ {ds : List Dt}, FitsAll ds → ∀ {e}, e ∈ ds → Fits e
  | [], _, e, h => by cases h
  | d :: ds, f, e, h => by
    unfold FitsAll at f
    rcases List.mem_cons.mp h with rfl | h
    · exact f.1
    · exact fitsAll_mem f.2 h
theorem mem_fits {d e : Dt} (f : Fits d) (h : e ∈ d.items) : Fits e := by
  cases d with
  | lst ds => unfold Fits at f; exact fitsAll_mem f h
  | tup ds => unfold Fits at f; exact fitsAll_mem f h
  | _ => cases h
theorem leaf_AtF {K : PySem.W.Frag} {H : Hp} {v : V} {d : Dt} (h : At K H v d) (f : Fits d) (hr : isRow d = false) : AtF H v (norm d) [] := by
  cases d with
  | lst ds => cases hr
  | tup ds => cases hr
  | non => unfold At at h; simp only [norm]; unfold AtF; exact ⟨h, rfl⟩
  | bl b => unfold At at h; simp only [norm]; unfold AtF; exact ⟨h, rfl⟩
  | int i => unfold At at h; simp only [norm]; unfold AtF; exact ⟨h, rfl⟩
  | str w => unfold At at h; simp only [norm]; unfold AtF; exact ⟨h.1, h.2, rfl⟩
  | dic => unfold Fits at f; exact f.elim
/-- a comprehension over a row, whatever its items come to; the row stands in G, which stays -/
theorem lc_rowP {K : PySem.W.Frag} {a : Addr} {xs : List V} {tt : TT} {te : TE} {vs : List Nat} {σ : L2.St} {G H : Hp} {Q : VK} {j k : Nat} (hv : σ[j]? = some (some (.ref a))) (hr : Row K G a xs) (hG : Same G H)
    (hw : ∀ x, wipe ((wipe σ vs).set k (some x)) vs = wipe σ vs) (ht : ∀ σ H (R : Bool → Hp → Prop), R true H → tt σ H R)
    (Pv : Addr → Nat → List V → Hp → Prop) (h0 : ∀ D, H D = none → Pv D 0 [] (upd H D (.lst []))) (hk : ∀ D i ys H', Pv D i ys H' → Same G H')
    (hs : ∀ D (i : Nat) (x : V) (ys : List V) (H' : Hp), H D = none → xs[i]? = some x → Pv D i ys H' → te ((wipe σ vs).set k (some x)) H' fun y H4 => ∃ acc, H4 D = some (.lst acc) ∧ acc.length < sizeLine ∧ ∃ ys, Pv D (i + 1) ys (upd H4 D (.lst (acc ++ [y]))))
    (hd : ∀ D ys H', H D = none → Pv D xs.length ys H' → Q (.ref D) H') : tLc (iSeq K (tVar j)) (gName k) tt te vs σ H Q := by
  have st : ∀ D i x H', H D = none → xs[i]? = some x → (∃ ys, Pv D i ys H') → gName k x (wipe σ vs) H' fun σ2 H2 => wipe σ2 vs = wipe σ vs ∧ tt σ2 H2 fun b H3 =>
      if b = true then te σ2 H3 fun y H4 => ∃ acc, H4 D = some (.lst acc) ∧ acc.length < sizeLine ∧ (∃ ys, Pv D (i + 1) ys (upd H4 D (.lst (acc ++ [y])))) else (∃ ys, Pv D (i + 1) ys H3) := by
    intro D i x H' nD hx ⟨ys, hP⟩
    refine ⟨hw x, ht _ _ _ ?_⟩
    rw [if_pos rfl]
    exact hs D i x ys H' nD hx hP
  rcases hr with hr | hr
  · exact .inl ⟨_, hv, a, rfl, ⟨_, hG.seq hr⟩, fun D nD => L2.lc_list (K := K) (a := a) (xs := xs) (fun i H' => ∃ ys, Pv D i ys H') ⟨[], h0 D nD⟩ (fun i H' _ ⟨ys, p⟩ => (hk D i ys H' p).seq hr) (fun i x H' hx p => st D i x H' nD hx p) (fun H' ⟨ys, p⟩ => hd D ys H' nD p)⟩
  · exact .inr ⟨_, hv, a, rfl, ⟨_, sameT hG hr⟩, fun D nD => L2.lc_tup (K := K) (a := a) (xs := xs) (fun i H' => ∃ ys, Pv D i ys H') ⟨[], h0 D nD⟩ (fun i H' _ ⟨ys, p⟩ => sameT (hk D i ys H' p) hr) (fun i x H' hx p => st D i x H' nD hx p) (fun H' ⟨ys, p⟩ => hd D ys H' nD p)⟩
/-- the same with any target -/
theorem lc_rowX {K : PySem.W.Frag} {a : Addr} {xs : List V} {tg : TG} {tt : TT} {te : TE} {vs : List Nat} {σ : L2.St} {G H : Hp} {Q : VK} {j : Nat} (hv : σ[j]? = some (some (.ref a))) (hr : Row K G a xs) (hG : Same G H)
    (Pv : Addr → Nat → Hp → Prop) (h0 : ∀ D, H D = none → Pv D 0 (upd H D (.lst []))) (hk : ∀ D i H', Pv D i H' → Same G H')
    (hs : ∀ D (i : Nat) (x : V) (H' : Hp), H D = none → xs[i]? = some x → Pv D i H' → tg x (wipe σ vs) H' fun σ2 H2 => wipe σ2 vs = wipe σ vs ∧ tt σ2 H2 fun b H3 =>
      if b = true then te σ2 H3 fun y H4 => ∃ acc, H4 D = some (.lst acc) ∧ acc.length < sizeLine ∧ Pv D (i + 1) (upd H4 D (.lst (acc ++ [y]))) else Pv D (i + 1) H3)
    (hd : ∀ D H', H D = none → Pv D xs.length H' → Q (.ref D) H') : tLc (iSeq K (tVar j)) tg tt te vs σ H Q := by
  rcases hr with hr | hr
  · exact .inl ⟨_, hv, a, rfl, ⟨_, hG.seq hr⟩, fun D nD => L2.lc_list (K := K) (a := a) (xs := xs) (fun i H' => Pv D i H') (h0 D nD) (fun i H' _ p => (hk D i H' p).seq hr) (fun i x H' hx p => hs D i x H' nD hx p) (fun H' p => hd D H' nD p)⟩
  · exact .inr ⟨_, hv, a, rfl, ⟨_, sameT hG hr⟩, fun D nD => L2.lc_tup (K := K) (a := a) (xs := xs) (fun i H' => Pv D i H') (h0 D nD) (fun i H' _ p => sameT (hk D i H' p) hr) (fun i x H' hx p => hs D i x H' nD hx p) (fun H' p => hd D H' nD p)⟩
theorem hid_none {p b : Addr} {H : Hp} (h : H b = none) : hid p H b = none := by
  by_cases e : b = p
  · exact if_pos e
  · rw [hid_ne e]
    exact h
theorem hid_hid {D : Addr} {H : Hp} {o : HO} : hid D (upd H D o) = hid D H := by
  funext b
  by_cases e : b = D
  · subst e
    show (if b = b then none else _) = (if b = b then none else _)
    rw [if_pos rfl, if_pos rfl]
  · rw [hid_ne e, hid_ne e, upd_ne e]
end BK

namespace BK
open PySem PySem.Spec PyProof.Rows L2
/-! ## [u, v][::k], k 1 or -1 -/
def tStp (K : PySem.W.Frag) (te tk : TE) : TE := fun σ H Q => te σ H fun x H1 => tPart tk σ H1 fun o H2 => ∃ (a : Addr) (u v : V) (k : Int), x = .ref a ∧ o = some k ∧ SqL K H2 a [u, v] ∧ (k = 1 ∨ k = -1) ∧ ∀ p, H2 p = none → Q (.ref p) (upd H2 p (.lst (if k = 1 then [u, v] else [v, u])))
theorem pick_two (a b : Value) : slicePick #[a, b] none none (some 1) = #[a, b] := by
  unfold slicePick
  show ((sliceRange 0 2 1).filterMap (#[a, b][·]?)).toArray = _
  rw [show sliceRange (0 : Int) 2 1 = [0, 1] from by decide]
  rfl
theorem pick_two' (a b : Value) : slicePick #[a, b] none none (some (-1)) = #[b, a] := by
  rw [PySem.W.krv_pick]
  rfl
theorem pe_stp {X : Cx} {e st : Expr} {te tk : TE} {p3 pos : Pos} (he : PE X e te) (hk : PE X st tk) (ht : ∀ v u : Value, subscripted (.Slice none none (some st) p3) false v u = operate [v, u] (getItem v u)) : PE X (.Subscript e (.Slice none none (some st) p3) pos) (tStp X.K te tk) := by
  refine ⟨fun pins s σ H Q I h => Subscript_ (thn (he.run pins s σ H _ I h) fun w s1 ⟨x, H1, J1, r1, q1⟩ => ?_)⟩
  have nn : ∀ {s' : Shared} {G : Hp}, L2.Inv X pins σ G s' → ∀ {R : Value → Shared → Prop}, (∀ pv s2, IsPart pv none → L2.Inv X pins σ G s2 → R pv s2) → wpAny (model X.prog X.w) X.A (evalPart none X.env) R X.xe s' := fun {s' G} J {R} k =>
    thn (po_none.run pins s' σ G (fun o G2 => o = none ∧ G2 = G) J ⟨rfl, rfl⟩) fun pv s2 ⟨l, G2, J2, pl, el, e2⟩ => by
      subst el e2
      exact k pv s2 pl J2
  refine wpAny_Slice (nn J1 fun vl s2 pl J2 => nn J2 fun vu s3 pu J3 => ?_)
  refine thn ((po_some hk).run pins s3 σ H1 _ J3 q1) fun vk s4 ⟨o, H2, J4, pk, a, u, v, k, ex, ek, hsq, hkk, q⟩ => ?_
  subst ex ek
  cases (show w = Value.ref a from r1)
  have J5 : L2.Inv X pins σ H2 { s4 with heap := s4.heap.push { cls := .type "slice", data := .fields #[vl, vu, vk] } } := J4.kept (t' := s4.toks) (fun _ _ z => Heap.get?_push_of_some _ z)
  obtain ⟨its, rv, pl2, hz⟩ := J5.list hsq
  obtain ⟨a1, a2, rfl, v1, v2⟩ := vals2 rv
  refine tail_any (ops := [Value.ref a, Value.ref s4.heap.objs.size]) pl2.isList.typeIs PySem.slot_list_getitem.lookup ?_ (ht _ _)
  refine wpAny_getItem_list_slice pl2.isList (Heap.IsSliceOf.new _ vl vu vk) pl pu pk (by rcases hkk with rfl | rfl <;> decide) ?_ (by show 2 ≤ sizeLine; decide)
  have fin : ∀ (ys : List V) (us : List Value), ys.length = 2 → Vals ys us → (∀ p, H2 p = none → Q (.ref p) (upd H2 p (.lst ys))) → EP X pins σ Q (.ref (s4.heap.push { cls := .type "slice", data := .fields #[vl, vu, vk] }).objs.size) { s4 with heap := (s4.heap.push { cls := .type "slice", data := .fields #[vl, vu, vk] }).push { cls := .type "list", data := .seq us.toArray } } := fun ys us hl r k =>
    ⟨.ref _, _, J5.laid (t' := s4.toks) (o := .lst ys) (fun _ _ z => Heap.get?_push_of_some _ z) (Nat.le_refl _) ⟨by rw [hl]; decide, us, 0, r, Heap.get?_push_size _ rfl⟩, rfl, k _ (J5.hok.fresh (Nat.le_refl _))⟩
  rcases hkk with rfl | rfl
  · rw [show [a1, a2].toArray = #[a1, a2] from rfl, pick_two]
    exact fin [u, v] [a1, a2] rfl (.cons v1 (.cons v2 .nil)) q
  · rw [show [a1, a2].toArray = #[a1, a2] from rfl, pick_two']
    exact fin [v, u] [a2, a1] rfl (.cons v2 (.cons v1 .nil)) q
end BK

namespace BK
open PySem PySem.Spec PyProof.Rows L2
section
variable {K : PySem.W.Frag} {X : Cx}
theorem sl_listK (hK : X.K = K := by rfl) : SlR X (rSlL K) := hK ▸ sl_list
def rTupOf (K : PySem.W.Frag) : List V → Hp → VK → Prop := fun xs H Q => ∃ p ys, xs = [.ref p] ∧ ((SqL K H p ys ∧ ∀ l, H l = none → Q (.ref l) (upd H l (.tup ys))) ∨ (SqT K H p ys ∧ Q (.ref p) H))
theorem call_tuple_ofK (hK : X.K = K := by rfl) : CallR X (.type "tuple") (rTupOf K) := by
  subst hK
  exact call_tuple_of
theorem op_notIn_seqK (hK : X.K = K := by rfl) : OpR X (compareOp CmpOp.NotIn) (rIn K true) := hK ▸ op_notIn_seq
def rListS : List V → Hp → VK → Prop := fun xs H Q => ∃ x : Str, xs = [.str x] ∧ x.cps.size ≤ sizeLine ∧ ∀ p, H p = none → Q (.ref p) (upd H p (.lst (x.cps.toList.map fun c => V.str (tx [c]))))
def rListOf (K : PySem.W.Frag) : List V → Hp → VK → Prop := fun xs H Q => ∃ p ys, xs = [.ref p] ∧ (SqL K H p ys ∨ SqT K H p ys) ∧ ∀ l, H l = none → Q (.ref l) (upd H l (.lst ys))
theorem call_or {f : Value} {r1 r2 : List V → Hp → VK → Prop} (h1 : CallR X f r1) (h2 : CallR X f r2) : CallR X f (fun xs H Q => r1 xs H Q ∨ r2 xs H Q) := by
  intro pins s σ H xs us Q I r h
  rcases h with h | h
  · exact h1 pins s σ H xs us Q I r h
  · exact h2 pins s σ H xs us Q I r h
theorem call_list_any (hc : X.calm = true) (hK : X.K = K := by rfl) : CallR X (.type "list") (fun xs H Q => rListS xs H Q ∨ rListOf K xs H Q) := by
  subst hK
  exact call_or (call_listS hc) call_list_of
end
end BK

namespace BK
open PySem PySem.Spec PyProof.Rows L2

/-! ## closed literals, as things -/
/-- what is new in H' -/
def since (H H' : Hp) : Hp := fun b => match H b with
  | none => H' b
  | some _ => none
theorem since_at {H H' : Hp} {b : Addr} {o : HO} (h : since H H' b = some o) : H b = none ∧ H' b = some o := by
  unfold since at h
  cases e : H b with
  | none => rw [e] at h; exact ⟨rfl, h⟩
  | some x => rw [e] at h; cases h
theorem since_of {H H' : Hp} {b : Addr} {o : HO} (h1 : H b = none) (h2 : H' b = some o) : since H H' b = some o := by
  unfold since
  rw [h1]
  exact h2
theorem since_same (H H' : Hp) : Same (since H H') H' := fun _ _ h => (since_at h).2
theorem since_mono {H H1 H2 : Hp} (e : Same H1 H2) : Same (since H H1) (since H H2) := fun b o h => since_of (since_at h).1 (e b o (since_at h).2)
theorem since_left {H H1 H2 : Hp} (e : Same H H1) : Same (since H1 H2) (since H H2) := fun b o h => since_of (e.free (since_at h).1) (since_at h).2
theorem since_hid {H H' : Hp} {p : Addr} {o : HO} (hp : H p = some o) : Same (since H H') (hid p H') := fun b x h => by
  rw [hid_ne (fun z => by rw [z] at h; have := (since_at h).1; rw [hp] at this; cases this)]
  exact (since_at h).2
def tLit (K : PySem.W.Frag) (d : Dt) : TE := fun _ H Q => ∀ H' v, Same H H' → At K (since H H') v d → Q v H'
def tLits (K : PySem.W.Frag) (ds : List Dt) : TA := fun _ H Q => ∀ H' vs, Same H H' → Ats K (since H H') vs ds → Q vs H'
section
variable {X : Cx} {e e1 e2 : PySem.Expr} {es : List PySem.Expr} {t t' : TE} {d : Dt} {ds : List Dt} {pos p : Pos} {i : Int} {j k : Nat}
theorem pe_wk (h : PE X e t) (hh : ∀ σ H Q, t' σ H Q → t σ H Q) : PE X e t' := ⟨fun pins s σ H Q I q => h.run pins s σ H Q I (hh σ H Q q)⟩
theorem pa_wk {ta ta' : TA} (h : PA X es ta) (hh : ∀ σ H Q, ta' σ H Q → ta σ H Q) : PA X es ta' := ⟨fun pos pins s σ H Q I q => h.run pos pins s σ H Q I (hh σ H Q q)⟩
theorem la_non {K : PySem.W.Frag} {H : Hp} : At K H .non .non := by unfold At; rfl
theorem la_bl {K : PySem.W.Frag} {H : Hp} {b : Bool} : At K H (.bl b) (.bl b) := by unfold At; rfl
theorem la_int {K : PySem.W.Frag} {H : Hp} {i : Int} : At K H (.int i) (.int i) := by unfold At; rfl
theorem la_str {K : PySem.W.Frag} {H : Hp} {w : List Nat} (h : w.length ≤ 1000000) : At K H (.str (tx w)) (.str w) := by unfold At; exact ⟨rfl, h⟩
theorem la_tup {K : PySem.W.Frag} {H : Hp} {a : Addr} {vs : List V} {ds : List Dt} (h : H a = some (.tup vs)) (hv : Ats K H vs ds) : At K H (.ref a) (.tup ds) := by
  unfold At
  exact ⟨a, vs, rfl, SqT.of h, hv⟩
theorem la_lst {K : PySem.W.Frag} {H : Hp} {a : Addr} {vs : List V} {ds : List Dt} (h : H a = some (.lst vs)) (hv : Ats K H vs ds) : At K H (.ref a) (.lst ds) := by
  unfold At
  exact ⟨a, vs, rfl, SqL.of h, hv⟩
theorem las_nil {K : PySem.W.Frag} {H : Hp} : Ats K H [] [] := by unfold Ats; rfl
theorem las_cons {K : PySem.W.Frag} {H : Hp} {v : V} {vs : List V} {d : Dt} {ds : List Dt} (h : At K H v d) (t : Ats K H vs ds) : Ats K H (v :: vs) (d :: ds) := by
  unfold Ats
  exact ⟨v, vs, rfl, h, t⟩
theorem las_len {K : PySem.W.Frag} {H : Hp} : ∀ {vs : List V} {ds : List Dt}, Ats K H vs ds → vs.length = ds.length
  | vs, [], h => by unfold Ats at h; subst h; rfl
  | vs, d :: ds, h => by
    unfold Ats at h
    obtain ⟨v, us, rfl, _, h2⟩ := h
    rw [List.length_cons, List.length_cons, las_len h2]
theorem las_app {K : PySem.W.Frag} {H : Hp} : ∀ {vs us : List V} {ds es : List Dt}, Ats K H vs ds → Ats K H us es → Ats K H (vs ++ us) (ds ++ es)
  | vs, us, [], es, h, h2 => by unfold Ats at h; subst h; exact h2
  | vs, us, d :: ds, es, h, h2 => by
    unfold Ats at h
    obtain ⟨v, ws, rfl, h3, h4⟩ := h
    exact las_cons h3 (las_app h4 h2)
theorem las_get {K : PySem.W.Frag} {H : Hp} : ∀ {vs : List V} {ds : List Dt} {i : Nat} {d : Dt}, Ats K H vs ds → ds[i]? = some d → ∃ v, vs[i]? = some v ∧ At K H v d
  | vs, [], i, d, h, e => by simp at e
  | vs, c :: ds, i, d, h, e => by
    unfold Ats at h
    obtain ⟨v, ws, rfl, h3, h4⟩ := h
    cases i with
    | zero =>
      cases e
      exact ⟨v, rfl, h3⟩
    | succ i => exact las_get (i := i) h4 e
theorem las_take {K : PySem.W.Frag} {H : Hp} : ∀ {vs : List V} {ds : List Dt} (n : Nat), Ats K H vs ds → Ats K H (vs.take n) (ds.take n)
  | vs, ds, 0, _ => by rw [List.take_zero, List.take_zero]; exact las_nil
  | vs, [], n + 1, h => by unfold Ats at h; subst h; exact las_nil
  | vs, d :: ds, n + 1, h => by
    unfold Ats at h
    obtain ⟨v, ws, rfl, h3, h4⟩ := h
    exact las_cons h3 (las_take n h4)
theorem las_drop {K : PySem.W.Frag} {H : Hp} : ∀ {vs : List V} {ds : List Dt} (n : Nat), Ats K H vs ds → Ats K H (vs.drop n) (ds.drop n)
  | vs, ds, 0, h => h
  | vs, [], n + 1, h => by unfold Ats at h; subst h; exact las_nil
  | vs, d :: ds, n + 1, h => by
    unfold Ats at h
    obtain ⟨v, ws, rfl, h3, h4⟩ := h
    exact las_drop n h4
theorem las_rep {K : PySem.W.Frag} {H : Hp} {v : V} {d : Dt} (h : At K H v d) : ∀ n, Ats K H (List.replicate n v) (List.replicate n d)
  | 0 => las_nil
  | n + 1 => las_cons h (las_rep h n)
theorem flat_one {α : Type} (v : α) : ∀ n, (List.replicate n [v]).flatten = List.replicate n v
  | 0 => rfl
  | n + 1 => by rw [List.replicate_succ, List.flatten_cons, flat_one v n]; rfl

theorem lit_non : PE X (.Constant .none j pos) (tLit X.K .non) := pe_wk pe_non fun σ H Q q => q H _ (Same.refl _) la_non
theorem lit_bl {b : Bool} : PE X (.Constant (.bool b) j pos) (tLit X.K (.bl b)) := pe_wk pe_bl fun σ H Q q => q H _ (Same.refl _) la_bl
theorem lit_int : PE X (.Constant (.int i) j pos) (tLit X.K (.int i)) := pe_wk pe_int fun σ H Q q => q H _ (Same.refl _) la_int
theorem lit_str {z : Str} (w : List Nat) (hz : z = tx w) (hl : w.length ≤ 1000000) : PE X (.Constant (.str z) j pos) (tLit X.K (.str w)) := pe_wk pe_str fun σ H Q q => by
  subst hz
  exact q H _ (Same.refl _) (la_str hl)
theorem lit_neg : PE X (.UnaryOp .USub (.Constant (.int i) j p) pos) (tLit X.K (.int (-i))) := pe_wk (pe_un un_neg pe_int) fun σ H Q q => ⟨i, rfl, q H _ (Same.refl _) la_int⟩
theorem lit_negE (h : PE X e (tLit X.K (.int i))) : PE X (.UnaryOp .USub e pos) (tLit X.K (.int (-i))) := pe_wk (pe_un un_neg h) fun σ H Q q H' v s hv => by
  unfold At at hv
  exact ⟨i, hv, q H' _ s la_int⟩
theorem lits_nil : PA X [] (tLits X.K []) := pa_wk pa_nil fun σ H Q q => q H _ (Same.refl _) las_nil
theorem lits_cons (h : PE X e (tLit X.K d)) (t : PA X es (tLits X.K ds)) (hs : starEach (e :: es) X.env = (false, eval e X.env) :: starEach es X.env := by rfl) : PA X (e :: es) (tLits X.K (d :: ds)) :=
  pa_wk (pa_cons h t hs) fun σ H Q q H1 v s1 hv H2 vs s2 hvs => q H2 _ (s1.trans s2) (las_cons (At.same (since_mono s2) _ _ hv) (Ats.same (since_left s1) _ _ hvs))
theorem lit_tup {x1} (h : PA X es (tLits X.K ds)) (hl : ds.length ≤ sizeLine) : PE X (.Tuple es x1 pos) (tLit X.K (.tup ds)) := pe_wk (pe_tup h) fun σ H Q q H1 vs s1 hvs =>
  ⟨by rw [las_len hvs]; exact hl, fun a na => q _ _ (s1.trans (same_upd na)) (la_tup (since_of (s1.free na) upd_same) (Ats.same (since_mono (same_upd na)) _ _ hvs))⟩
theorem lit_lst (h : PA X es (tLits X.K ds)) (hl : ds.length ≤ sizeLine) : PE X (.List es pos) (tLit X.K (.lst ds)) := pe_wk (pe_lst h) fun σ H Q q H1 vs s1 hvs =>
  ⟨by rw [las_len hvs]; exact hl, fun a na => q _ _ (s1.trans (same_upd na)) (la_lst (since_of (s1.free na) upd_same) (Ats.same (since_mono (same_upd na)) _ _ hvs))⟩
theorem lit_dic : PE X (.Dict [] [] pos) (tLit X.K .dic) := pe_wk pe_dnewK fun σ H Q q a na => q _ _ (same_upd na) (by unfold At; exact ⟨a, rfl, since_of na upd_same⟩)
theorem lit_mulS {z : Str} {p2 : Pos} (n : Nat) (hi : i = (n : Int)) (w r : List Nat) (hz : z = tx w) (hr : w.length = 1 ∧ (List.replicate n w).flatten = r) (hn : n ≤ 1000000) : PE X (.BinOp (.Constant (.str z) j p) .Mult (.Constant (.int i) k p2) pos) (tLit X.K (.str r)) :=
  pe_wk (pe_op op_mul_str pe_str pe_int) fun σ H Q q => by
    subst hz hi
    refine ⟨_, _, rfl, rfl, mul_ok 1 1000000 (by omega) hn (by decide) (by decide), ?_⟩
    rw [mul_tx w n, hr.2]
    exact q H _ (Same.refl _) (la_str (by rw [← hr.2, List.length_flatten, List.map_replicate, List.sum_replicate_nat, hr.1]; omega))
theorem lit_mulL (n : Nat) {p2 : Pos} (hi : i = (n : Int)) (h : PE X e (tLit X.K d)) (hn : n ≤ 1000000) (hs : starEach [e] X.env = (false, eval e X.env) :: starEach [] X.env := by rfl) : PE X (.BinOp (.List [e] p) .Mult (.Constant (.int i) k p2) pos) (tLit X.K (.lst (List.replicate n d))) :=
  pe_wk (pe_op op_rep (pe_lst (pa_cons h pa_nil hs)) pe_int) fun σ H Q q H1 v s1 hv => by
    subst hi
    refine ⟨by show 1 ≤ sizeLine; decide, fun a na => ⟨a, _, [v], rfl, rfl, upd_same, by omega, by omega, by show [v].length * _ ≤ _; simp only [List.length_singleton, Int.toNat_natCast]; exact Nat.le_trans (by omega) (show 1000000 ≤ sizeLine by decide), fun b nb => ?_⟩⟩
    have sb := (same_upd (o := .lst [v]) na).trans (same_upd (o := .lst (List.replicate (n : Int).toNat [v]).flatten) nb)
    have e1 : (List.replicate (n : Int).toNat [v]).flatten = List.replicate n v := by rw [Int.toNat_natCast, flat_one]
    rw [e1] at sb ⊢
    exact q _ _ (s1.trans sb) (la_lst (since_of (s1.free (by
      cases e : H1 b with
      | none => rfl
      | some o => exact absurd (same_upd na _ _ e) (by rw [nb]; exact nofun))) upd_same) (las_rep (At.same (since_mono sb) _ _ hv) n))
theorem lit_pow {a b : Nat} {i2 : Int} {k2 : Nat} {p2 : Pos} (hc : b ≤ 1000000 ∧ a < 2 ^ 64) (h1 : i = (a : Int)) (h2 : i2 = (b : Int)) : PE X (.BinOp (.Constant (.int i) j p) .Pow (.Constant (.int i2) k2 p2) pos) (tLit X.K (.int ((a : Int) ^ b))) :=
  pe_wk (pe_op op_pow pe_int pe_int) fun σ H Q q => by
    subst h1 h2
    exact ⟨_, _, rfl, rfl, ⟨by omega, by omega, by omega⟩, q H _ (Same.refl _) la_int⟩
theorem lit_add {i2 : Int} (h1 : PE X e1 (tLit X.K (.int i))) (h2 : PE X e2 (tLit X.K (.int i2))) (_ : True) : PE X (.BinOp e1 .Add e2 pos) (tLit X.K (.int (i + i2))) :=
  pe_wk (pe_op op_add h1 h2) fun σ H Q q H1 v s1 hv H2 u s2 hu => by
    unfold At at hv hu
    exact ⟨_, _, hv, hu, q H2 _ (s1.trans s2) la_int⟩
theorem lit_sub {i2 : Int} (h1 : PE X e1 (tLit X.K (.int i))) (h2 : PE X e2 (tLit X.K (.int i2))) (_ : True) : PE X (.BinOp e1 .Sub e2 pos) (tLit X.K (.int (i - i2))) :=
  pe_wk (pe_op op_sub h1 h2) fun σ H Q q H1 v s1 hv H2 u s2 hu => by
    unfold At at hv hu
    exact ⟨_, _, hv, hu, q H2 _ (s1.trans s2) la_int⟩
theorem lit_mul {i2 : Int} (h1 : PE X e1 (tLit X.K (.int i))) (h2 : PE X e2 (tLit X.K (.int i2))) (hc : i.natAbs < 2 ^ 64) : PE X (.BinOp e1 .Mult e2 pos) (tLit X.K (.int (i * i2))) :=
  pe_wk (pe_op op_mul h1 h2) fun σ H Q q H1 v s1 hv H2 u s2 hu => by
    unfold At at hv hu
    exact ⟨_, _, hv, hu, .inl ⟨by omega, by omega⟩, q H2 _ (s1.trans s2) la_int⟩
end

theorem lit_K {X : Cx} {e : PySem.Expr} {d : Dt} (K : PySem.W.Frag) (h : PE X e (tLit X.K d)) (hK : X.K = K := by rfl) : PE X e (tLit K d) := hK ▸ h
/-! ## reprs where an empty dict may be within -/
mutual
def FitD : Dt → Prop
  | .non => True
  | .bl _ => True
  | .int i => i.natAbs < 10 ^ 47
  | .str w => ∀ c ∈ w, c < 4294967296
  | .lst ds => FitDs ds
  | .tup ds => FitDs ds
  | .dic => True
def FitDs : List Dt → Prop
  | [] => True
  | d :: ds => FitD d ∧ FitDs ds
end
theorem fitDs_of : ∀ {ds : List Dt}, (∀ d ∈ ds, FitD d) → FitDs ds
  | [], _ => by unfold FitDs; trivial
  | d :: ds, h => by unfold FitDs; exact ⟨h d (List.mem_cons_self ..), fitDs_of fun x hx => h x (List.mem_cons_of_mem _ hx)⟩
theorem fitDs_mem : ∀ {ds : List Dt}, FitDs ds → ∀ {e}, e ∈ ds → FitD e
  | [], _, e, h => by cases h
  | d :: ds, f, e, h => by
    unfold FitDs at f
    rcases List.mem_cons.mp h with rfl | h
    · exact f.1
    · exact fitDs_mem f.2 h
mutual
theorem fitD_of : ∀ d : Dt, Fits d → FitD d
  | .non, _ => by unfold FitD; trivial
  | .bl _, _ => by unfold FitD; trivial
  | .int i, h => by unfold Fits at h; unfold FitD; exact h
  | .str w, h => by unfold Fits at h; unfold FitD; exact h
  | .lst ds, h => by unfold Fits at h; unfold FitD; exact fitDs_ofA ds h
  | .tup ds, h => by unfold Fits at h; unfold FitD; exact fitDs_ofA ds h
  | .dic, h => by unfold FitD; trivial
theorem fitDs_ofA : ∀ ds : List Dt, FitsAll ds → FitDs ds
  | [], _ => by unfold FitDs; trivial
  | d :: ds, h => by unfold FitsAll at h; unfold FitDs; exact ⟨fitD_of d h.1, fitDs_ofA ds h.2⟩
end
mutual
theorem fitD_short : ∀ d : Dt, FitD d → d.py.leavesShort 48 = true ∧ d.py.showable = true
  | .non, _ => by simp only [Dt.py, PyData.leavesShort, PyData.showable, and_self]
  | .bl _, _ => by simp only [Dt.py, PyData.leavesShort, PyData.showable, and_self]
  | .int i, h => by
    unfold FitD at h
    simp only [Dt.py, PyData.leavesShort, PyData.showable, decide_eq_true_eq]
    exact ⟨int48 h, int_log h⟩
  | .str w, h => by
    unfold FitD at h
    simp only [Dt.py, PyData.leavesShort, PyData.showable, tx_cps, List.all_eq_true, decide_eq_true_eq, and_true]
    exact fun c hc => h c hc
  | .lst ds, h => by
    unfold FitD at h
    simp only [Dt.py, PyData.leavesShort, PyData.showable]
    exact fitDs_short ds h
  | .tup ds, h => by
    unfold FitD at h
    simp only [Dt.py, PyData.leavesShort, PyData.showable]
    exact fitDs_short ds h
  | .dic, h => by simp only [Dt.py, PyData.leavesShort, PyData.leavesShortKv, PyData.showable, PyData.showableKv, and_self]
theorem fitDs_short : ∀ ds : List Dt, FitDs ds → PyData.leavesShortAll 48 (pyAll ds) = true ∧ PyData.showableAll (pyAll ds) = true
  | [], _ => by simp only [pyAll, PyData.leavesShortAll, PyData.showableAll, and_self]
  | d :: ds, h => by
    unfold FitDs at h
    have h1 := fitD_short d h.1
    have h2 := fitDs_short ds h.2
    simp only [pyAll, PyData.leavesShortAll, PyData.showableAll, h1.1, h1.2, h2.1, h2.2, Bool.and_self, and_self]
end
theorem not_mods {X : Cx} {pins : List (Addr × Obj)} {σ : L2.St} {H : Hp} {s : Shared} (hm : Mods X.base) (I : L2.Inv X pins σ H s) {a : Addr} {o : Obj} {vs : Array Value} {n : Nat} (h : s.heap.get? a = some o) (hd : o.data = .seq vs n) : sysModules ≠ a := by
  intro z
  subst z
  obtain ⟨mm, ob, es, ep, h1, h2, h3⟩ := hm
  have := (I.bs _ _ h1).1
  rw [h] at this
  cases this
  rw [hd] at h2
  cases h2
section
variable {X : Cx} {pins : List (Addr × Obj)} {σ : L2.St} {H : Hp} {s : Shared}
mutual
theorem reads_D (hm : Mods X.base) (I : L2.Inv X pins σ H s) : ∀ (d : Dt) (v : V) (u : Value), At X.K H v d → RelV v u → FitD d → ∃ as, Reads s.heap u d.py as ∧ sysModules ∉ as
  | .non, v, u, h, r, _ => by
    unfold At at h
    subst h
    cases (show u = Value.none from r)
    simp only [Dt.py]
    exact ⟨_, .none, List.not_mem_nil⟩
  | .bl b, v, u, h, r, _ => by
    unfold At at h
    subst h
    cases (show u = Value.bool b from r)
    simp only [Dt.py]
    exact ⟨_, .bool b, List.not_mem_nil⟩
  | .int i, v, u, h, r, _ => by
    unfold At at h
    subst h
    obtain ⟨t, rfl⟩ := r
    simp only [Dt.py]
    exact ⟨_, .int i t, List.not_mem_nil⟩
  | .str w, v, u, h, r, _ => by
    unfold At at h
    obtain ⟨rfl, _⟩ := h
    obtain ⟨t, rfl⟩ := r
    simp only [Dt.py]
    exact ⟨_, .str _ t, List.not_mem_nil⟩
  | .lst ds, v, u, h, r, f => by
    unfold At at h
    unfold FitD at f
    obtain ⟨a, xs, rfl, h1, h2⟩ := h
    cases (show u = Value.ref a from r)
    obtain ⟨its, rv, ⟨o, n, e1, e2, _, e3⟩, _⟩ := I.list h1
    obtain ⟨as, k, kn⟩ := reads_Ds hm I ds xs its h2 rv f
    simp only [Dt.py]
    exact ⟨_, .list e1 e2 e3 (by rw [List.toList_toArray]; exact k), fun z => (List.mem_cons.mp z).elim (not_mods hm I e1 e3) kn⟩
  | .tup ds, v, u, h, r, f => by
    unfold At at h
    unfold FitD at f
    obtain ⟨a, xs, rfl, h1, h2⟩ := h
    cases (show u = Value.ref a from r)
    obtain ⟨its, rv, ⟨o, e1, e2, n, e3⟩, _⟩ := I.tuple h1
    obtain ⟨as, k, kn⟩ := reads_Ds hm I ds xs its h2 rv f
    simp only [Dt.py]
    exact ⟨_, .tuple e1 e2 e3 (by rw [List.toList_toArray]; exact k), kn⟩
  | .dic, v, u, h, r, f => by
    unfold At at h
    obtain ⟨a, rfl, h1⟩ := h
    cases (show u = Value.ref a from r)
    obtain ⟨_, hne, vs, kv, o, es, ep, e1, e2, e3, e4⟩ := I.hok a _ h1
    cases kv
    have e5 : es.toList = [] := by
      obtain ⟨_, p, _⟩ := e4
      cases hl : es.toList with
      | nil => rfl
      | cons x l =>
        rw [hl] at p
        cases p
    simp only [Dt.py]
    refine ⟨_, .dict (kvs := []) (as := []) (bs := []) e1 e2.1 e3 (by rw [e5]; exact .nil) (by rw [e5]; exact .nil), fun z => ?_⟩
    rcases List.mem_cons.mp z with z | z
    · exact absurd z.symm (beq_eq_false_iff_ne.mp hne)
    · cases z
theorem reads_Ds (hm : Mods X.base) (I : L2.Inv X pins σ H s) : ∀ (ds : List Dt) (vs : List V) (us : List Value), Ats X.K H vs ds → Vals vs us → FitDs ds → ∃ as, ReadsAll s.heap us (pyAll ds) as ∧ sysModules ∉ as
  | [], vs, us, h, r, _ => by
    unfold Ats at h
    subst h
    cases r
    simp only [pyAll]
    exact ⟨_, .nil, List.not_mem_nil⟩
  | d :: ds, vs, us, h, r, f => by
    unfold Ats at h
    unfold FitDs at f
    obtain ⟨v, ws, rfl, h1, h2⟩ := h
    cases r with
    | cons r1 r2 =>
      obtain ⟨a1, k1, n1⟩ := reads_D hm I d v _ h1 r1 f.1
      obtain ⟨a2, k2, n2⟩ := reads_Ds hm I ds ws _ h2 r2 f.2
      simp only [pyAll]
      exact ⟨_, .cons k1 k2, fun z => (List.mem_append.mp z).elim n1 n2⟩
end
end
def NeatD (d : Dt) : Prop := FitD d ∧ deep d ≤ 60 ∧ bulk d ≤ 300000
theorem Neat.d {d : Dt} (h : Neat d) : NeatD d := ⟨fitD_of _ h.1, h.2⟩
theorem neatD_size {d : Dt} (h : NeatD d) : (shw d).length ≤ sizeLine := by
  have h1 := PyData.shown_le_bulk 48 (by decide) d.py (fitD_short d h.1).1
  rw [bulk_py] at h1
  have h2 : (48 + 2) * bulk d ≤ 50 * 300000 := Nat.mul_le_mul (Nat.le_refl _) h.2.2
  have h3 : sizeLine = 16777216 := by decide
  unfold shw
  omega
def rReprD (K : PySem.W.Frag) : List V → Hp → VK → Prop := fun xs H Q => ∃ (p : Addr) (d : Dt), xs = [.ref p] ∧ At K H (.ref p) d ∧ NeatD d ∧ Q (.str (shw d)) H
theorem call_reprD {X : Cx} (hm : Mods X.base) (hg : X.A.guards = some []) (hu : X.A.units + 64 < cLine) : CallR X (.builtin "repr") (rReprD X.K) := by
  intro pins s σ H xs us Q I r h
  obtain ⟨p, d, rfl, hat, hn, q⟩ := h
  obtain ⟨u, rfl, rp⟩ := vals1 r
  cases (show u = Value.ref p from rp)
  obtain ⟨as, rd, no⟩ := reads_D hm I d _ _ hat rfl hn.1
  refine repr_of_reads' rd (fitD_short d hn.1).2 (fun _ => no) hg (by rw [depth_py]; have := hn.2.1; omega) (fun _ _ e => e) (fun h' t tk hk => ?_) (neatD_size hn)
  exact ⟨.str (shw d), H, I.kept (t' := tk) (fun b o e => hk b o e), ⟨t, rfl⟩, q⟩
end BK

namespace BK
open PySem PySem.Spec PyProof.Rows L2

theorem few_le {n : Nat} (h : n ≤ 1000) : n ≤ sizeLine := Nat.le_trans h (by decide)
/-! ## things written out of literals and of what stands in slots; p is the spring, which is left out -/
def addD : Dt → Dt → Dt
  | .int a, .int b => .int (a + b)
  | _, _ => .non
def subD : Dt → Dt → Dt
  | .int a, .int b => .int (a - b)
  | _, _ => .non
def mulD : Dt → Dt → Dt
  | .int a, .int b => .int (a * b)
  | _, _ => .non
/-- what stands in the slots U, and that in the slots I stand whole numbers (less than 10^100) -/
def Slots (K : PySem.W.Frag) (U I : List Nat) (p : Addr) (ρ : Nat → Dt) (σ : L2.St) (H : Hp) : Prop :=
  (∃ o, H p = some o) ∧ (∀ i ∈ U, ∃ v, σ[i]? = some (some v) ∧ At K (hid p H) v (ρ i)) ∧ ∀ i ∈ I, ∃ a : Int, ρ i = .int a ∧ a.natAbs < 10 ^ 100
theorem Slots.mono {K : PySem.W.Frag} {U I : List Nat} {p : Addr} {ρ : Nat → Dt} {σ : L2.St} {H H' : Hp} (h : Slots K U I p ρ σ H) (s : Same H H') : Slots K U I p ρ σ H' :=
  ⟨h.1.elim fun o e => ⟨o, s _ _ e⟩, fun i hi => (h.2.1 i hi).elim fun v e => ⟨v, e.1, At.same (hid_mono s) _ _ e.2⟩, h.2.2⟩
def tThg (K : PySem.W.Frag) (U I : List Nat) (tm : (Nat → Dt) → Dt) : TE := fun σ H Q => ∃ p ρ, Slots K U I p ρ σ H ∧ ∀ H' v, Same H H' → At K (hid p H') v (tm ρ) → Q v H'
def tThgs (K : PySem.W.Frag) (U I : List Nat) (tm : (Nat → Dt) → List Dt) : TA := fun σ H Q => ∃ p ρ, Slots K U I p ρ σ H ∧ ∀ H' vs, Same H H' → Ats K (hid p H') vs (tm ρ) → Q vs H'
/-- whole numbers -/
def tNum (K : PySem.W.Frag) (U I : List Nat) (tm : (Nat → Dt) → Int) : TE := fun σ H Q => ∃ p ρ, Slots K U I p ρ σ H ∧ Q (.int (tm ρ)) H
def intD : Dt → Int
  | .int a => a
  | _ => 0
section
variable {X : Cx} {e e1 e2 : PySem.Expr} {es : List PySem.Expr} {t t' : TE} {pos : Pos} {U I : List Nat} {tm tm1 tm2 : (Nat → Dt) → Dt} {tms : (Nat → Dt) → List Dt} {n1 n2 : (Nat → Dt) → Int} {i : Nat} {k : Int} {j : Nat}
theorem tg_lit {d : Dt} (h : PE X e (tLit X.K d)) : PE X e (tThg X.K U I fun _ => d) := pe_wk h fun σ H Q q H' v s hv => by
  obtain ⟨p, ρ, hS, q⟩ := q
  obtain ⟨o, ho⟩ := hS.1
  exact q H' v s (At.same (since_hid ho) _ _ hv)
theorem tg_var (h : PE X e (tVar i)) (hi : i ∈ U) : PE X e (tThg X.K U I fun ρ => ρ i) := pe_wk h fun σ H Q q => by
  obtain ⟨p, ρ, hS, q⟩ := q
  obtain ⟨v, h1, h2⟩ := hS.2.1 i hi
  exact ⟨v, h1, q H v (Same.refl _) h2⟩
theorem tn_lit : PE X (.Constant (.int k) j pos) (tNum X.K U I fun _ => k) := pe_wk pe_int fun σ H Q q => by
  obtain ⟨p, ρ, hS, q⟩ := q
  exact q
theorem tn_var (h : PE X e (tVar i)) (hi : i ∈ U) (hI : i ∈ I) : PE X e (tNum X.K U I fun ρ => intD (ρ i)) := pe_wk h fun σ H Q q => by
  obtain ⟨p, ρ, hS, q⟩ := q
  obtain ⟨v, h1, h2⟩ := hS.2.1 i hi
  obtain ⟨a, h3, _⟩ := hS.2.2 i hI
  have q : Q (V.int (intD (ρ i))) H := q
  rw [h3] at h2 q
  unfold At at h2
  subst h2
  exact ⟨_, h1, q⟩
theorem tn_add (h1 : PE X e1 (tNum X.K U I n1)) (h2 : PE X e2 (tNum X.K U I n2)) : PE X (.BinOp e1 .Add e2 pos) (tNum X.K U I fun ρ => n1 ρ + n2 ρ) := pe_wk (pe_op op_add h1 h2) fun σ H Q q => by
  obtain ⟨p, ρ, hS, q⟩ := q
  exact ⟨p, ρ, hS, p, ρ, hS, _, _, rfl, rfl, q⟩
theorem tn_sub (h1 : PE X e1 (tNum X.K U I n1)) (h2 : PE X e2 (tNum X.K U I n2)) : PE X (.BinOp e1 .Sub e2 pos) (tNum X.K U I fun ρ => n1 ρ - n2 ρ) := pe_wk (pe_op op_sub h1 h2) fun σ H Q q => by
  obtain ⟨p, ρ, hS, q⟩ := q
  exact ⟨p, ρ, hS, p, ρ, hS, _, _, rfl, rfl, q⟩
theorem tg_num (h : PE X e (tNum X.K U I n1)) : PE X e (tThg X.K U I fun ρ => .int (n1 ρ)) := pe_wk h fun σ H Q q => by
  obtain ⟨p, ρ, hS, q⟩ := q
  exact ⟨p, ρ, hS, q H _ (Same.refl _) la_int⟩
theorem tgs_nil : PA X [] (tThgs X.K U I fun _ => []) := pa_wk pa_nil fun σ H Q q => by
  obtain ⟨p, ρ, hS, q⟩ := q
  exact q H _ (Same.refl _) las_nil
theorem tgs_cons (h : PE X e (tThg X.K U I tm)) (t : PA X es (tThgs X.K U I tms)) (hs : starEach (e :: es) X.env = (false, eval e X.env) :: starEach es X.env := by rfl) : PA X (e :: es) (tThgs X.K U I fun ρ => tm ρ :: tms ρ) :=
  pa_wk (pa_cons h t hs) fun σ H Q q => by
    obtain ⟨p, ρ, hS, q⟩ := q
    exact ⟨p, ρ, hS, fun H1 v s1 hv => ⟨p, ρ, hS.mono s1, fun H2 vs s2 hvs => q H2 _ (s1.trans s2) (las_cons (At.same (hid_mono s2) _ _ hv) hvs)⟩⟩
theorem hid_new {H : Hp} {p a : Addr} {o u : HO} (hp : H p = some o) (na : H a = none) : hid p (upd H a u) a = some u := by
  rw [hid_ne (fun z => by rw [z, hp] at na; cases na), upd_same]
theorem tg_tup {x1} (h : PA X es (tThgs X.K U I tms)) (hl : ∀ ρ, (tms ρ).length ≤ sizeLine) : PE X (.Tuple es x1 pos) (tThg X.K U I fun ρ => .tup (tms ρ)) := pe_wk (pe_tup h) fun σ H Q q => by
  obtain ⟨p, ρ, hS, q⟩ := q
  refine ⟨p, ρ, hS, fun H1 vs s1 hvs => ⟨by rw [las_len hvs]; exact hl ρ, fun a na => ?_⟩⟩
  obtain ⟨o, ho⟩ := (hS.mono s1).1
  exact q _ _ (s1.trans (same_upd na)) (la_tup (hid_new ho na) (Ats.same (hid_mono (same_upd na)) _ _ hvs))
theorem tg_lst (h : PA X es (tThgs X.K U I tms)) (hl : ∀ ρ, (tms ρ).length ≤ sizeLine) : PE X (.List es pos) (tThg X.K U I fun ρ => .lst (tms ρ)) := pe_wk (pe_lst h) fun σ H Q q => by
  obtain ⟨p, ρ, hS, q⟩ := q
  refine ⟨p, ρ, hS, fun H1 vs s1 hvs => ⟨by rw [las_len hvs]; exact hl ρ, fun a na => ?_⟩⟩
  obtain ⟨o, ho⟩ := (hS.mono s1).1
  exact q _ _ (s1.trans (same_upd na)) (la_lst (hid_new ho na) (Ats.same (hid_mono (same_upd na)) _ _ hvs))
/-- a list of things, new -/
def tNew (K : PySem.W.Frag) (U I : List Nat) (tms : (Nat → Dt) → List Dt) : TE := fun σ H Q => ∃ p ρ, Slots K U I p ρ σ H ∧ ∀ H' vs a, Same H H' → H' a = none → Ats K (hid p H') vs (tms ρ) → Q (.ref a) (upd H' a (.lst vs))
theorem tg_new (h : PA X es (tThgs X.K U I tms)) (hl : ∀ ρ, (tms ρ).length ≤ sizeLine) : PE X (.List es pos) (tNew X.K U I tms) := pe_wk (pe_lst h) fun σ H Q q => by
  obtain ⟨p, ρ, hS, q⟩ := q
  exact ⟨p, ρ, hS, fun H1 vs s1 hvs => ⟨by rw [las_len hvs]; exact hl ρ, fun a na => q H1 vs a s1 na hvs⟩⟩
/-- a list of things, joined to one in slot i -/
def tJoin (K : PySem.W.Frag) (U I : List Nat) (i : Nat) (tms : (Nat → Dt) → List Dt) : TE := fun σ H Q => ∃ p ρ l xs ds, Slots K U I p ρ σ H ∧ σ[i]? = some (some (.ref l)) ∧ H l = some (.lst xs) ∧ Ats K (hid p H) xs ds ∧ ds.length ≤ 10000 ∧
  ∀ H' vs a, Same H H' → H' a = none → Ats K (hid p H') vs (ds ++ tms ρ) → Q (.ref a) (upd H' a (.lst vs))
theorem tg_join {pos2 : Pos} (h1 : PE X e (tVar i)) (h : PA X es (tThgs X.K U I tms)) (hl : ∀ ρ, (tms ρ).length ≤ 1000) : PE X (.BinOp e .Add (.List es pos2) pos) (tJoin X.K U I i tms) := pe_wk (pe_op op_cat h1 (tg_new h fun ρ => few_le (hl ρ))) fun σ H Q q => by
  obtain ⟨p, ρ, l, xs, ds, hS, h2, h3, h4, h5, q⟩ := q
  refine ⟨_, h2, p, ρ, hS, fun H1 vs a s1 na hvs => ?_⟩
  have s2 := s1.trans (same_upd (o := .lst vs) na)
  refine ⟨l, a, xs, vs, rfl, rfl, s2 _ _ h3, upd_same, ?_, fun b nb => ?_⟩
  · rw [las_len h4, las_len hvs]
    have := hl ρ
    exact Nat.le_trans (show ds.length + (tms ρ).length ≤ 11000 by omega) (by decide)
  · exact q _ _ b s2 nb (las_app (Ats.same (hid_mono s2) _ _ h4) (Ats.same (hid_mono (same_upd na)) _ _ hvs))
end
end BK

namespace BK
open PySem PySem.Spec PyProof.Rows L2

/-! ## errors that are kept behind their clause -/
/-- an error of the class cls that was caught, kept at a -/
def ExB (cls : Value) (d : Option Addr) (a : Addr) : HO := .ext fun h => ∃ (oe : Obj) (vs : Array Value), h.get? a = some oe ∧ Zc cls d oe ∧ oe.data = .fields vs
section
variable {X : Cx} {pins : List (Addr × Obj)} {σ : L2.St} {H : Hp} {s : Shared} {a : Addr} {oe : Obj} {vs : Array Value} {cls : Value} {d : Option Addr}
theorem inv_keep (I : L2.Inv X ((a, oe) :: pins) σ H s) (n0 : ∀ o, X.s_0.heap.get? a = some o → X.H_0 a = none → a ∉ X.ex → False) (hp : ∀ p ∈ X.pn ++ pins, p.1 ≠ a) (hz : Zc cls d oe) (hd : oe.data = .fields vs) : L2.Inv X pins σ (upd H a (ExB cls d a)) s := by
  obtain ⟨ha, na, nL, nF, nc⟩ := I.pin (a, oe) (List.mem_append_right _ List.mem_cons_self)
  have off : ∀ {b : Addr} {u : HO}, H b = some u → b ≠ a := fun {b u} e z => by
    rw [z, na] at e
    cases e
  refine ⟨I.ok, I.os, I.bare, ⟨I.base.keep, I.base.slot, fun b o e n hx => ?_, I.base.there, fun b xs e => ?_, fun b o u e => ?_, fun b ps e => ?_⟩, I.loc, I.cell, ?_, fun x c e => ?_, fun p hm => ?_, ?_, I.len⟩
  · by_cases hb : b = a
    · subst hb
      exact (n0 o e n hx).elim
    · rw [upd_ne hb]
      exact I.base.free b o e n hx
  · have q := I.base.tups b xs e
    rw [upd_ne (off q)]
    exact q
  · have q := I.base.frzs b o u e
    rw [upd_ne (off q)]
    exact q
  · obtain ⟨m, q⟩ := I.base.tbls b ps e
    exact ⟨m, by rw [upd_ne (off q)]; exact q⟩
  · rw [upd_ne (fun z => nL z.symm)]
    exact I.free
  · have hc : c ≠ a := fun z => by
      obtain ⟨v, o, ho, hv⟩ := I.cell x c e
      rw [z, ha] at ho
      cases ho
      exact nc v hv
    rw [upd_ne hc]
    exact I.freeC x c e
  · obtain ⟨e, n, ne, nf, hv⟩ := I.pin p (by
      rcases List.mem_append.mp hm with z | z
      · exact List.mem_append_left _ z
      · exact List.mem_append_right _ (List.mem_cons_of_mem _ z))
    exact ⟨e, by rw [upd_ne (hp p hm)]; exact n, ne, nf, hv⟩
  · exact I.hok.laidN (fun _ _ q => q) na ⟨⟨oe, vs, ha, hz, hd⟩, ⟨oe, ha⟩, fun _ _ ⟨o, v, q, r⟩ k => ⟨o, v, k o q, r⟩⟩
end
/-- what a clause wishes: behind its suite, where it runs on, the error is kept -/
def wKeep (K : PySem.W.Frag) (c : Value) (i : Nat) (ts : Addr → Value → Option Addr → TS) (Wout : WX) (D : Ends) : WX := fun cls d σ H =>
  ∃ b, PySem.W.exmOne K cls c = some b ∧ (b = true → ∀ a, H a = none → ts a cls d { nx := fun σ1 H1 => H1 a = none → D.nx (σ1.set i none) (upd H1 a (ExB cls d a)), rt := D.rt, bk := fun σ1 H1 => D.bk (σ1.set i none) H1, ct := fun σ1 H1 => D.ct (σ1.set i none) H1 } (σ.set i (some (.ref a))) H) ∧
    (b = false → Wout cls d σ H)
theorem inv_pinned {X : Cx} {pins pn' : List (Addr × Obj)} {σ : L2.St} {H : Hp} {s : Shared} {a : Addr} {q : Addr × Obj} (I : L2.Inv (X.suite a (q :: (X.pn ++ pins))) pn' σ H s) (ok : X.Ok) : L2.Inv X (q :: pins) σ H s :=
  ⟨ok, I.os, I.bare, I.base, I.loc, I.cell, I.free, I.freeC, fun p hp => I.pin p (List.mem_append_left _ (by
    rcases List.mem_append.mp hp with z | z
    · exact List.mem_cons_of_mem _ (List.mem_append_left _ z)
    · rcases List.mem_cons.mp z with z | z
      · rw [z]
        exact List.mem_cons_self
      · exact List.mem_cons_of_mem _ (List.mem_append_right _ z))), I.hok, I.len⟩
section
variable {X : Cx} {x n : Str} {c : Value} {i : Nat} {body suite : List Stmt} {b0 : Stmt} {np pos pos' : Pos} {tb : WX → TS} {ts : Addr → Value → Option Addr → TS} {Wout : WX}
/-- try: body, except x as n: suite -/
theorem ps_tryK (hs : X.stack = X.env :: X.outer) (hf : X.env.frame = some X.env.locals) (hN : X.N.Nodup) (hi : X.N[i]? = some n) (hln : X.env.kindOf n = some .local) (hc : Names X x c) (tk : Takes X Wout)
    (hb : ∀ (W : WX) (pn : List (Addr × Obj)) (xe : Value → Shared → Prop), Takes (X.tr pn xe) W → PassesOwn (model X.prog X.w) X.A X.env xe → PSs (X.tr pn xe) body (tb W))
    (hsu : ∀ (a : Addr) (oe : Obj) (cls : Value) (d : Option Addr) (pn : List (Addr × Obj)), Zc cls d oe → (∃ vs, oe.data = .fields vs) → PSs (X.suite a ((a, oe) :: pn)) (b0 :: suite) (ts a cls d)) :
    PS X (.Try body [.ExceptHandler (some (.Name x np)) (some n) (b0 :: suite) pos'] [] [] pos) (fun D σ H => tb (wKeep X.K c i ts Wout D) D σ H) := by
  refine ⟨fun pins s σ H D I h => ?_⟩
  have ok := I.ok
  have fr : X.A.frames = some (X.env :: X.outer) := ok.frames.trans (by rw [hs])
  refine wpAny_Try_except (wpAny_mono ((hb (wKeep X.K c i ts Wout D) (X.pn ++ pins) (fun e s1 => wpAny (model X.prog X.w) X.A (noteFrame e X.env) (fun _ s2 => wpAny (model X.prog X.w) X.A (setFlight e none) (fun _ s3 =>
    wpAny (model X.prog X.w) X.A (handleBy e X.env [.ExceptHandler (some (.Name x np)) (some n) (b0 :: suite) pos']) (SP X pins D) X.xe s3) X.xe s2) X.xe s1) (fun u s' xx => ?_) PassesOwn.looking).run [] s σ H D (I.toTry _) h) (fun f s1 hsp => ?_) (fun _ _ z => z))
  · obtain ⟨a, B, sI, pins', σ1, H1, cls, d, rfl, J0, nb, up, sky, na, os, ag, b, hb1, hyes, hno⟩ := xx
    have J : L2.Inv X pins σ1 H1 sI := J0.ofTry ok
    show wpAny (model X.prog X.w) X.A (noteFrame (.ref a) X.env) _ _ _
    refine Sky.land Zc.steady fr hf (by rw [← hs]; exact sky) fun h3 fl3 up3 => ?_
    have J3 : L2.Inv X pins σ1 H1 { s' with heap := h3 } := J.landed nb fl3.1 (up.trans up3) os ag
    obtain ⟨oe3, vs3, he3, hz3, hd3⟩ := fl3.there
    have nfr : a ∉ frs (X.env :: X.outer) := fun hm => by
      obtain ⟨_, o1, e1, hnf⟩ := fl3.2.2.1.mem hm
      rw [he3] at e1
      cases e1
      exact hnf _ hd3
    have nL : a ≠ X.env.locals := fun z => nfr (List.mem_filterMap.mpr ⟨X.env, List.mem_cons_self, by rw [hf, z]⟩)
    have nF : a ∉ X.fs := fun hm => by
      obtain ⟨e, he, q⟩ := List.mem_filterMap.mp hm
      exact nfr (List.mem_filterMap.mpr ⟨e, List.mem_cons_of_mem _ he, q⟩)
    have nB : B.get? a = none := fl3.2.1
    have n0 : ∀ o, X.s_0.heap.get? a = some o → X.H_0 a = none → a ∉ X.ex → False := fun o e n hx => by
      obtain ⟨o1, e1⟩ := J.base.there a o e hx
      have := nb a o1 e1 (by rw [hs]; exact nfr)
      rw [nB] at this
      cases this
    have hpa : ∀ p ∈ X.pn ++ pins, p.1 ≠ a := fun p hp z => by
      obtain ⟨e1, _⟩ := J.pin p hp
      rw [z] at e1
      have := nb a _ e1 (by rw [hs]; exact nfr)
      rw [nB] at this
      cases this
    have S3 := J3.suite he3 hd3 na nL nF
    refine wpAny_handleBy_cons (codeAny_handlers_test ?_) (by intro q; cases q)
    have LT : PySem.W.Looks (model X.prog X.w) h3 (typeOf (.ref a)) cls := fun A Q E s k q => wpAny_typeOf_ref (k _ _ he3) (by rw [hz3.1]; exact q)
    have LM := PySem.W.exm_one (M := model X.prog X.w) (J3.kIn) LT hb1
    have test : ∀ {Q : Value → Shared → Prop} {E : Value → Shared → Prop}, Q c { s' with heap := h3 } → wpAny (model X.prog X.w) (X.A.mark (some (.ref a))) (eval (.Name x np) X.env) Q E { s' with heap := h3 } := fun {Q E} q => by
      obtain ⟨hg, hdbg, hm | ⟨hm, hv, hnn⟩⟩ := hc
      · exact ld_glob (X := X.suite a ((a, oe3) :: (X.pn ++ pins))) S3 hg hm q hdbg
      · exact ld_blt (X := X.suite a ((a, oe3) :: (X.pn ++ pins))) S3 hg hm hv q hnn hdbg
    refine test (LM.here ?_)
    cases b with
    | true =>
      refine codeAny_handlers_suite_as (HandSPX.lands_againZ fl3 fun h4 fl4 up4 => ?_)
      have J4 : L2.Inv X pins σ1 H1 { s' with heap := h4 } := J.landed nb fl4.1 ((up.trans up3).trans up4) os ag
      obtain ⟨oe4, vs4, he4, hz4, hd4⟩ := fl4.there
      refine store_ok (X := X.suite a ((a, oe4) :: (X.pn ++ pins))) (v := .ref a) (J4.suite he4 hd4 na nL nF) hN hi (.inl hln) rfl (fun s5 S5 => ?_) (.inr hln)
      refine wpAny_mono ((hsu a oe4 cls d (X.pn ++ pins) hz4 ⟨_, hd4⟩).run [] s5 _ H1 _ S5 (hyes rfl a na)) (fun f s6 hsp => ?_) (fun _ _ z => False.elim z)
      have end_ : ∀ {σ6 : L2.St} {H6 : Hp} {Q : Shared → Prop}, L2.Inv (X.suite a ((a, oe4) :: (X.pn ++ pins))) [] σ6 H6 s6 → (∀ s7, L2.Inv X pins (σ6.set i none) H6 s7 → Q s7) →
          wpAny (model X.prog X.w) X.A (do bindName X.env n .none; unbindBehindTheSuite X.env n pos') (fun _ s7 => Q s7) X.xe s6 := fun {σ6 H6 Q} S6 hq => gone_ok (S6.unsuite ok) hN hi hln hq
      cases f with
      | next =>
        obtain ⟨σ6, H6, S6, q6⟩ := hsp
        have S7 := inv_pinned S6 ok
        have n6 := (S7.pin (a, oe4) (List.mem_append_right _ List.mem_cons_self)).2.1
        exact gone_ok S7 hN hi hln fun s7 J7 => ⟨_, _, inv_keep J7 n0 hpa hz4 hd4, q6 n6⟩
      | brk =>
        obtain ⟨σ6, H6, S6, q6⟩ := hsp
        exact end_ S6 fun s7 J7 => ⟨_, _, J7, q6⟩
      | cont =>
        obtain ⟨σ6, H6, S6, q6⟩ := hsp
        exact end_ S6 fun s7 J7 => ⟨_, _, J7, q6⟩
      | ret u =>
        obtain ⟨v6, σ6, H6, S6, r6, q6⟩ := hsp
        exact end_ S6 fun s7 J7 => ⟨_, _, _, J7, r6, q6⟩
    | false =>
      show wpAny _ X.A (handleBy (.ref a) X.env []) _ _ _
      refine wpAny_handleBy_nil ?_
      obtain ⟨k1, k2, k3, oe, vs, T, oT, ts', he, hz, hd, h1, hr⟩ := id fl3
      unfold PySem.passOn
      refine wpAny_bind (wpAny_field he hd h1 ?_)
      rw [if_neg (show ¬ ((Value.ref T == Value.none) = true) from by simp)]
      have fin : wpAny (model X.prog X.w) X.A (setFlight (.ref a) X.env.frame) (fun _ s4 => wpAny (model X.prog X.w) X.A (throw (.ref a) : Sem Flow) (SP X pins D) X.xe s4) X.xe { s' with heap := h3 } := by
        rw [hf]
        exact HandSPX.setFlight_upZ fl3 fun h4 hh4 up4 => wpAny_throw (tk _ _ ⟨a, B, sI, pins, σ1, H1, cls, d, rfl, J, nb, (up.trans up3).trans up4, .inr (.inr (by rw [hs]; exact hh4)), na, os, ag, hno rfl⟩)
      first
        | exact wpAny_bind (wpAny_pure (wpAny_bind fin))
        | exact wpAny_bind fin
  · cases f with
    | next =>
      obtain ⟨σ1, H1, J1, q⟩ := hsp
      exact wpAny_execs_nil ⟨σ1, H1, J1.ofTry ok, q⟩
    | brk =>
      obtain ⟨σ1, H1, J1, q⟩ := hsp
      exact ⟨σ1, H1, J1.ofTry ok, q⟩
    | cont =>
      obtain ⟨σ1, H1, J1, q⟩ := hsp
      exact ⟨σ1, H1, J1.ofTry ok, q⟩
    | ret u =>
      obtain ⟨v, σ1, H1, J1, r, q⟩ := hsp
      exact ⟨v, σ1, H1, J1.ofTry ok, r, q⟩
end

/-! ## isinstance of errors -/
/-- .. of the one that the suite holds -/
def rIsS (K : PySem.W.Frag) (cls : Value) (d : Option Addr) (a : Addr) : List V → Hp → VK → Prop := fun xs H Q => d = none ∧ ∃ D, cls = .ref D ∧ ExcC K D ∧ rIsE K D a xs H Q
theorem call_isS {X : Cx} {a : Addr} {cls : Value} {d : Option Addr} {oe : Obj} {pn : List (Addr × Obj)} (hz : Zc cls d oe) (hf : ∃ vs, oe.data = .fields vs) : CallR (X.suite a ((a, oe) :: pn)) (.builtin "isinstance") (rIsS X.K cls d a) := by
  intro pins s σ H xs us Q I r h
  obtain ⟨rfl, D, rfl, hC, h⟩ := h
  exact call_isE hC hz hf pins s σ H xs us Q I r h
theorem inst_kept {X : Cx} {pins : List (Addr × Obj)} {σ : L2.St} {H : Hp} {s : Shared} {a D : Addr} (I : L2.Inv X pins σ H s) (h : H a = some (ExB (.ref D) none a)) : ∃ oe, PySem.W.InstAt s.heap a oe D none := by
  obtain ⟨⟨oe, vs, ho, hz, hd⟩, _, _⟩ := I.hok a _ h
  obtain ⟨oc, od, oda, osl⟩ := oe
  obtain ⟨h1, h2⟩ := hz
  dsimp only at h1 h2 hd
  subst h1 h2 hd
  exact ⟨_, ho, rfl, rfl, trivial⟩
/-- .. of a kept one -/
def rIsB (K : PySem.W.Frag) : List V → Hp → VK → Prop := fun xs H Q => ∃ (a D : Addr) (c : V) (cv : Value) (b : Bool), xs = [.ref a, c] ∧ H a = some (ExB (.ref D) none a) ∧ ExcC K D ∧ (∀ u, RelV c u → u = cv) ∧ PySem.W.kitOne K (.ref D) cv = some b ∧ Q (.bl b) H
theorem call_isB {X : Cx} : CallR X (.builtin "isinstance") (rIsB X.K) := by
  intro pins s σ H xs us Q I r h
  obtain ⟨a, D, c, cv, b, rfl, ha, C, hcv, e, q⟩ := h
  obtain ⟨oe, J⟩ := inst_kept I ha
  cases r with
  | cons rx rr =>
    cases rr with
    | cons rt rr =>
      cases rr
      cases rx
      have ec := hcv _ rt
      subst ec
      exact PySem.W.kia_one (PySem.W.handS_kitx_exc C.hg C.hk C.hs C.hd C.ha C.hn C.ht C.hm) I.kIn J e (fun z => nomatch z) fun tk => ⟨.bl b, H, I.kept (t' := tk) fun _ _ z => z, rfl, q⟩
/-- .. among several classes -/
def rIsBT (K : PySem.W.Frag) : List V → Hp → VK → Prop := fun xs H Q => ∃ (a D t : Addr) (cs : List Addr) (b : Bool), xs = [.ref a, .ref t] ∧ H a = some (ExB (.ref D) none a) ∧ H t = some (.tup (cs.map V.ref)) ∧ ExcC K D ∧ PySem.W.kitAny K (.ref D) (cs.map Value.ref) = some b ∧ Q (.bl b) H
theorem vals_refs : ∀ {cs : List Addr} {us : List Value}, Vals (cs.map V.ref) us → us = cs.map Value.ref
  | [], _, .nil => rfl
  | c :: cs, _, .cons r t => by
    have e := vals_refs t
    cases (show _ = Value.ref c from r)
    rw [e, List.map_cons]
theorem call_isBT {X : Cx} : CallR X (.builtin "isinstance") (rIsBT X.K) := by
  intro pins s σ H xs us Q I r h
  obtain ⟨a, D, t, cs, b, rfl, ha, ht, C, e, q⟩ := h
  obtain ⟨oe, J⟩ := inst_kept I ha
  obtain ⟨_, its, rv, ⟨o, ho, hc, n, hd⟩⟩ := I.hok t _ ht
  have ev := vals_refs rv
  subst ev
  obtain ⟨oc, od, oda, osl⟩ := o
  dsimp only at hc hd
  subst hc hd
  cases r with
  | cons rx rr =>
    cases rr with
    | cons rt rr =>
      cases rr
      cases rx
      cases rt
      exact PySem.W.kia_tup (PySem.W.handS_kitx_exc C.hg C.hk C.hs C.hd C.ha C.hn C.ht C.hm) I.kIn J ho e (fun z => nomatch z) fun tk => ⟨.bl b, H, I.kept (t' := tk) fun _ _ z => z, rfl, q⟩

/-! ## what the top says of the errors' classes -/
structure ExT (K : PySem.W.Frag) (mg : Str → Option Value) (x : Str) : Type where
  C : Addr
  g : mg x = some (.ref C)
  k : PySem.W.keepIn K (.ref C) = true
  hd : PySem.W.hasDictIn K C = true
  ty : PySem.W.typeIn K (.ref C) = some (.type "type")
  sb : PySem.W.subIn K (.ref C) (.type "BaseException") = some true
  sl : PySem.W.subIn K (.ref C) (.ref C) = some true
structure RzT (K : PySem.W.Frag) (C : Addr) : Prop where
  q : PySem.W.excIn K C [.type "ValueError", .type "Exception", .type "BaseException", .type "object"] "ValueError.__new__" = true
  E : ExcC K C
  ty : PySem.W.typeIn K (.ref C) = some (.type "type")
  sv : PySem.W.subIn K (.ref C) (.type "ValueError") = some true
theorem RzT.rz {K : PySem.W.Frag} {C : Addr} (h : RzT K C) {X : Cx} (hK : X.K = K := by rfl) : Raises X (.ref C) := by
  subst hK
  exact raises_own h.E.hs h.ty
theorem pe_cls {X : Cx} {x : Str} {pos : Pos} {C : Addr} (h : X.mg x = some (.ref C)) (hg : Gl X x := by rfl) (hd : (x == ("__debug__" : Str)) = false := by decide) : PE X (.Name x pos) (tC (.ref C)) := pe_glob hg h rfl hd
theorem kit_self {K : PySem.W.Frag} {C : Addr} : PySem.W.kitOne K (.ref C) (.ref C) = some true := if_pos (beq_self_eq_true _)
theorem kit_ref {K : PySem.W.Frag} {mg : Str → Option Value} {x : Str} {D : Addr} {b : Bool} (t : ExT K mg x) (hD : PySem.W.subIn K (.ref D) (.ref D) = some true) (h : PySem.W.subIn K (.ref D) (.ref t.C) = some b) : PySem.W.kitOne K (.ref D) (.ref t.C) = some b := by
  unfold PySem.W.kitOne
  by_cases e : (Value.ref D == Value.ref t.C) = true
  · rw [if_pos e]
    cases eq_of_beq e
    rw [hD] at h
    exact h
  · rw [if_neg e]
    obtain ⟨cd, hc, _⟩ := PySem.W.any_some t.hd
    show (if ((PySem.W.clsIn K t.C).isSome && PySem.W.typeIn K (.ref t.C) == some (.type "type")) = true then PySem.W.subIn K (.ref D) (.ref t.C) else none) = some b
    rw [hc, t.ty]
    exact h
theorem kit_val {K : PySem.W.Frag} {D : Addr} {n : String} {b : Bool} (hm : PySem.W.kitMeta n = true) (h : PySem.W.subIn K (.ref D) (.type n) = some b) : PySem.W.kitOne K (.ref D) (.type n) = some b := by
  unfold PySem.W.kitOne
  rw [if_neg (fun z => by cases eq_of_beq z)]
  show (if PySem.W.kitMeta n = true then PySem.W.subIn K (.ref D) (.type n) else none) = some b
  rw [if_pos hm]
  exact h
theorem exm_of {K : PySem.W.Frag} {mg : Str → Option Value} {x : Str} {D : Addr} {b : Bool} (t : ExT K mg x) (h : PySem.W.subIn K (.ref D) (.ref t.C) = some b) : PySem.W.exmOne K (.ref D) (.ref t.C) = some b := PySem.W.exm_ref t.sb t.hd t.ty h
theorem kit_cons {K : PySem.W.Frag} {t c : Value} {cs : List Value} {b : Bool} (h : PySem.W.kitOne K t c = some false) (hr : PySem.W.kitAny K t cs = some b) : PySem.W.kitAny K t (c :: cs) = some b := by
  unfold PySem.W.kitAny
  rw [h]
  exact hr
theorem kit_nil {K : PySem.W.Frag} {t : Value} : PySem.W.kitAny K t [] = some false := rfl

/-! ## f(e, .., k = v, ..) in a try -/
section
variable {X : Cx} {CX : CXT} {k n : Nat} {f : Addr} {fd : FuncData} {ps ks : List Str} {sp : Sp} {E : L2.St → XK} {x : Str} {p pos : Pos} {e : PySem.Expr} {es : List PySem.Expr} {kws : List Keyword} {ta tk : TA} {g : List Value → List Value → List Value} {gV : List V → List V → List V}
def tCallNS (n m : Nat) (sp : Sp) (gV : List V → List V → List V) (E : L2.St → XK) (ta tk : TA) : TE := fun σ H Q => ta σ H fun vs H1 => tk σ H1 fun zs H2 => vs.length = n ∧ zs.length = m ∧ sp (gV vs zs) H2 Q (E σ)
theorem pe_callNS (F : FnOk X.prog X.w X.K X.mg X.base CX k f fd ps sp) (hr : Room k X.A) (hg : Gl X x) (hm : X.mg x = some (.ref f)) (hk : PySem.W.keepIn X.K (.ref f) = true) (hb : KBn X.K fd ps n ks g gV) (hx : ∀ σ, PassesAt CX X σ (E σ))
    (ha : PA X (e :: es) ta) (hkw : PK X kws tk) (hall : (backToKw pos (keywordEach kws X.env)).all (·.1.isSome) = true := by rfl) (hks : (backToKw pos (keywordEach kws X.env)).filterMap (·.1) = ks := by rfl)
    (hdb : (x == ("__debug__" : Str)) = false := by decide) (he : starEach (e :: es) X.env = (false, eval e X.env) :: starEach es X.env := by rfl)
    (hpl : ((backTo pos (starEach (e :: es) X.env)).any (·.1) || (backToKw pos (keywordEach kws X.env)).any (·.1.isNone)) = false := by rfl) :
    PE X (.Call (.Name x p) (e :: es) kws pos) (tCallNS n ks.length sp gV E ta tk) := by
  constructor
  intro pins s σ H Q I h
  refine wpAny_Call_Name_kw (ld_glob I hg hm ?_ hdb)
  refine PySem.W.callWith_KW (h₀ := X.base) I.ok.mod.kin hk hall (thn (ha.run pos pins s σ H _ I h) fun us s1 hh1 => ?_) hpl he
  obtain ⟨vs, H1, I1, r, q⟩ := hh1
  refine thn (hkw.run pos pins s1 σ H1 _ I1 q) fun ws s2 hh2 => ?_
  obtain ⟨zs, H2, I2, rz, l1, l2, q2⟩ := hh2
  refine ⟨I2.kIn, ?_⟩
  rw [hks]
  refine wpAny_call (codeAny_mono (F.run X.A X.stack s2 H2 ⟨us, ks.zip ws⟩ (g us ws) (gV vs zs) Q (E σ) hr I2.env0 (hb.to s2 us ws I2.kIn (r.length.symm.trans l1) (rz.length.symm.trans l2)) (hb.rel r rz) q2) (fun r s' hq => ?_))
  match r, hq with
  | .error e, hq => exact hx σ pins H2 s2 e s' I2 hq
  | .ok (.ret u), hq => exact I2.after hq
end
/-! ## promises put together -/
section
variable {P : Program} {w : World} {K : PySem.W.Frag} {mg : Str → Option Value} {base : Heap} {C : CXT} {k : Nat} {f : Addr} {fd : FuncData} {ps : List Str} {sp sp' : Sp}
theorem FnOk.or (F : FnOk P w K mg base C k f fd ps sp) (G : FnOk P w K mg base C k f fd ps sp') : FnOk P w K mg base C k f fd ps (fun vs H Q E => sp vs H Q E ∨ sp' vs H Q E) :=
  ⟨fun vs H Q E h => h.elim (F.len vs H Q E) (G.len vs H Q E), fun A outer s H args us vs Q E r e b v h => h.elim (F.run A outer s H args us vs Q E r e b v) (G.run A outer s H args us vs Q E r e b v)⟩
/-- what raises nothing keeps its promise where errors are let out -/
theorem FnOk.x (F : FnOk P w K mg base CX0 k f fd ps sp) : FnOk P w K mg base (L2.CX P w) k f fd ps sp :=
  ⟨F.len, fun A outer s H args us vs Q E r e b v h => codeAny_mono (F.run A outer s H args us vs Q E r e b v h) fun rs s' hq => by
    match rs, hq with
    | .error e, hq => exact hq.elim
    | .ok (.ret u), hq => exact hq⟩
end
/-! ## xs.count(x) of flat things -/
def rCntF (K : PySem.W.Frag) : V → List V → Hp → VK → Prop := fun x xs H Q => ∃ (a : Addr) (ys : List V) (y : V), x = V.ref a ∧ xs = [y] ∧ SqL K H a ys ∧ flatV y = true ∧ ys.all flatV = true ∧ Q (.int ((ys.countP fun z => eqV z y : Nat) : Int)) H
theorem countP_vals {y : V} : ∀ {ys : List V} {its : List Value}, Vals ys its → ys.all flatV = true → its.countP (eqU y) = ys.countP fun z => eqV z y
  | [], _, .nil, _ => rfl
  | z :: ys, u :: us, .cons r t, f => by
    rw [List.all_cons, Bool.and_eq_true] at f
    rw [List.countP_cons, List.countP_cons, countP_vals t f.2, eqU_of r f.1]
theorem mt_countF {X : Cx} : MtR X "list.count" (rCntF X.K) := by
  intro pins s σ H x xs v us Q I rx rxs h
  obtain ⟨a, ys, y, rfl, rfl, hs, fy, fys, q⟩ := h
  cases rx
  cases rxs with
  | cons ry rt =>
    rename_i uy ut
    cases rt
    obtain ⟨its, rv, ⟨⟨cls, dd, data, sl⟩, n, ho, hc, hdn, hd⟩, hlen⟩ := I.list hs
    simp only at hc hd
    subst hc hd
    refine call_meets PySem.F.slot_list_count ⟨_, ho, rfl⟩ PySem.F.entry_list_count (PySem.F.args_list_count_2 _ _) (SeqAt.list_countAt a its.toArray n dd sl uy (eqU y)) ⟨ho, fun u' hu' => mem_eqAt ry fy rv fys u' (by simpa using hu'), ?_⟩
    refine ⟨.int _, H, I.tok _, ⟨s.toks, ?_⟩, q⟩
    show Value.int ((its.toArray.toList.countP (eqU y) : Nat) : Int) s.toks = _
    rw [List.toList_toArray, countP_vals rv fys]
end BK

/-! enumerate over a tuple -/
namespace PySem
open Sem (wp)
/-- enumerate of what begins as told: its two new cells -/
theorem enumNewOf {v : Value} {o : Obj} {Hs : Heap → Prop} (bg : Begins v o Hs) :
    Meets (Builtin.«enumerate.__new__» ⟨[.type "enumerate", v], []⟩) fun _ R s => Hs s.heap ∧
      R (.ok (.ret (.ref (s.heap.push o).objs.size)))
        { s with heap := (s.heap.push o).push { cls := .type "enumerate", data := .fields #[.none, .bool false, .ref s.heap.objs.size, rawInt 0, .none, .none] } } :=
  .of_wp fun prog w A R s hyp => by
    obtain ⟨hp, g, d, tk, os⟩ := s
    obtain ⟨beg, hR⟩ := hyp
    have isSub := sub_enumerate
    have itr : ∀ {A1 : Around} {E1 : Value → Shared → Prop} {Q1 : Value → Shared → Prop}, Q1 (.ref hp.objs.size) ⟨hp.push o, g, d, tk, os⟩ → wpAny (model prog w) A1 (pyIter v) Q1 E1 ⟨hp, g, d, tk, os⟩ :=
      fun z => bg.iter prog w _ _ ⟨hp, g, d, tk, os⟩ _ beg z
    wp_walk using itr
    refine wpAny_stack_any fun _ => wpAny_pure ?_
    split
    · rename_i c _ _ _ _ _
      cases (c == Value.type "enumerate") <;> (wp_walk using itr; exact ⟨_, rfl, hR⟩)
    · wp_walk using itr
      exact ⟨_, rfl, hR⟩
theorem enumCall {prog : Program} {w : World} {A : Around} {E : Value → Shared → Prop} {s : Shared} {v : Value} {o : Obj} {Hs : Heap → Prop} {Q : Value → Shared → Prop} (bg : Begins v o Hs) (beg : Hs s.heap)
    (h : ∀ h', IsEnum h' (s.heap.objs.size + 1) s.heap.objs.size 0 .none → h'.get? s.heap.objs.size = some o →
      (∀ b u, s.heap.get? b = some u → h'.get? b = some u) → Q (.ref (s.heap.objs.size + 1)) { s with heap := h' }) :
    wpAny (model prog w) A (call (.type "enumerate") [v]) Q E s := by
  refine callType_new F.called_enumerate (by decide) (F.typeCall_enumerate_1 _) (F.newCall_enumerate_1 _)
    (fun ob => F.args_object_init_2 ob _) F.entry_enumerate_new (enumNewOf bg) ⟨beg, ?_⟩
  have two : (s.heap.push o).objs.size = s.heap.objs.size + 1 := Heap.size_push ..
  show _ ∧ _
  rw [two]
  have en := Heap.get?_push_size (s.heap.push o) (o := { cls := .type "enumerate", data := .fields #[.none, .bool false, .ref s.heap.objs.size, rawInt 0, .none, .none] }) rfl
  rw [two] at en
  exact ⟨⟨_, en, rfl⟩, h _ en (Heap.get?_push_of_some _ (Heap.get?_push_size _ bg.free)) fun b u z => Heap.get?_push_of_some _ (Heap.get?_push_of_some _ z)⟩
end PySem
namespace BK
open PySem PySem.Spec PyProof.Rows L2
/-- the tuple at a, each item in a new pair -/
def IteT (K : PySem.W.Frag) (a : Addr) : It where
  go := fun i H => ∃ (xs : List V) (x : V), SqT K H a xs ∧ xs[i]? = some x
  yld := fun i H v H' => ∃ T x, v = .ref T ∧ H T = none ∧ H' = upd H T (.tup [.int (i : Nat), x]) ∧ ∀ xs, SqT K H a xs → xs[i]? = some x
  stop := fun i H => ∃ xs : List V, SqT K H a xs ∧ xs.length ≤ i
/-- its two cells behind i items -/
def EnTn (e it a : Addr) (i : Nat) (h : Heap) : Prop := (∃ o, IsEnum h e it ((i : Nat) : Int) o) ∧ h.IsTupleIter it a i ∧ e ≠ it
theorem tupApart {h : Heap} {it a : Addr} {i : Nat} {us : Array Value} (h1 : h.IsTupleIter it a i) (h2 : h.IsTuple a us) : a ≠ it := fun z => by
  subst z
  obtain ⟨o, e1, c1, _⟩ := h1
  obtain ⟨u, e2, c2, _⟩ := h2
  rw [e1] at e2
  cases e2
  rw [c1] at c2
  injection c2 with z
  exact absurd z (by decide)
theorem enApart {h : Heap} {e it a : Addr} {k : Int} {old : Value} {us : Array Value} (h1 : IsEnum h e it k old) (h2 : h.IsTuple a us) : e ≠ a := fun z => by
  subst z
  obtain ⟨u, e2, c2, _⟩ := h2
  rw [show h.get? e = _ from h1] at e2
  cases e2
  injection c2 with z
  exact absurd z (by decide)
theorem turnEnT {P : Program} {w : World} {K : PySem.W.Frag} {elts : List Expr} {kk : Nat} {tpos : Pos} (a e it : Addr) : Turn P w K (.Tuple elts kk tpos) (IteT K a) [e, it] e (EnTn e it a) := by
  have two : ∀ {b : Addr}, b ∈ [e, it] → b = e ∨ b = it := fun hb => by simpa using hb
  refine ⟨by simp, fun i h st b hb => ?_, fun i h h' st kp => ?_, ?_, ?_, fun A i s Q E st q => ?_⟩
  · obtain ⟨⟨old, en⟩, ⟨o, ho, hc, hd⟩, _⟩ := st
    rcases two hb with rfl | rfl
    · exact ⟨_, en, fun v q => nomatch q⟩
    · exact ⟨o, ho, fun v q => by rw [hd] at q; cases q⟩
  · obtain ⟨⟨old, en⟩, ti, ne⟩ := st
    exact ⟨⟨old, kp e (by simp) _ en⟩, ti.at fun o q => kp it (by simp) o q, ne⟩
  · intro Y e1 e2 e3 calm j pn sh σ G Er J fr st go
    subst e1 e2 e3
    obtain ⟨⟨old, en⟩, ti, ne⟩ := st
    obtain ⟨xs, x, sq, hx⟩ := go
    obtain ⟨us, rel, isT, hz⟩ := J.tuple sq
    obtain ⟨u, hu, ru⟩ := rel.get hx
    have isT : sh.heap.IsTuple a us.toArray := isT
    have ae := enApart en isT
    have el : e < sh.heap.objs.size := Heap.lt_size en
    have jl : j < us.toArray.size := by
      have := (List.getElem?_eq_some_iff.mp hu).1
      simpa using this
    have dr := Draws.tuple (prog := Y.prog) (w := Y.w) (A := Y.A.in1) (show Y.A.in1.handled = none from J.ok.hd calm) it a (tupApart ti isT) us.toArray
    refine wpAny_pyNext_enum_itemD dr en ⟨ti, isT⟩ jl ne (by simp [ne, ae]) fun y h1 tk hy out st1 tup sz kp => ?_
    have hyu : y = u := by
      have h2 : us.toArray[j]? = some u := by simpa using hu
      rw [h2] at hy
      exact (Option.some.inj hy).symm
    subst hyu
    refine ⟨_, rfl, wpAny_letOwnedTupleGo_enum (s := { sh with heap := h1, toks := tk + 1 }) out fun h2 en2 sb => ?_⟩
    have tup2 : h2.get? sh.heap.objs.size = some { cls := .type "tuple", data := .seq #[.int j tk, y] } := (sb.2 _ (Nat.ne_of_gt el)).trans tup
    have made : ObjOk Y.prog Y.w (upd G sh.heap.objs.size (.tup [.int (j : Nat), x])) h2 sh.heap.objs.size (.tup [.int (j : Nat), x]) :=
      ⟨by show 2 ≤ sizeLine; decide, [.int j tk, y], .cons ⟨_, rfl⟩ (.cons ru .nil), ⟨_, tup2, rfl, _, rfl⟩⟩
    have J1 : L2.Inv Y pn σ (upd G sh.heap.objs.size (.tup [.int (j : Nat), x])) { sh with heap := h2, toks := tk + 1 } :=
      J.turnedNew (ch := [e, it]) (fun b o hb q => (sb.2 b (fun z => hb (by simp [z]))).trans (kp b o (fun z => hb (by simp [z])) (fun z => hb (by simp [z])) q)) fr (Nat.le_refl _) made
    have nx : (j : Int) + 1 = ((j + 1 : Nat) : Int) := by omega
    refine ⟨.ref sh.heap.objs.size, _, J1, rfl, ⟨_, x, rfl, J.hok.fresh (Nat.le_refl _), rfl, fun ys hy => by rw [J.tuple_inj hy sq]; exact hx⟩, ⟨⟨y, ?_⟩, st1.1.at fun o q => (sb.2 it (Ne.symm ne)).trans q, ne⟩, fun b hb => ?_⟩
    · rw [← nx]
      exact en2
    · have il : it < sh.heap.objs.size := by
        obtain ⟨_, q, _⟩ := ti
        exact Heap.lt_size q
      have bl : b < sh.heap.objs.size := by
        rcases two hb with z | z
        · rw [z]; exact el
        · rw [z]; exact il
      rw [upd_ne (Nat.ne_of_lt bl)]
      exact (fr b hb).1
  · intro Y e1 e2 e3 calm j pn sh σ G Er J fr st fin
    subst e1 e2 e3
    obtain ⟨⟨old, en⟩, ti, ne⟩ := st
    obtain ⟨xs, sq, hx⟩ := fin
    obtain ⟨us, rel, isT, hz⟩ := J.tuple sq
    have isT : sh.heap.IsTuple a us.toArray := isT
    have hl := rel.length
    obtain ⟨f0, f1, f2, f3, f4, f5⟩ := fr it (by simp)
    have T : sh.TypeIs (.ref e) "enumerate" := ⟨_, en, rfl⟩
    unfold pyNext
    refine wpAny_bind (wpAny_attempt (wpAny_callSpecial?_slot (name := Str.ofString "__next__") T F.slot_enumerate_next (wpAny_call_entry F.slot_enumerate_next T F.entry_enumerate_next ?_ (F.args_enumerate_next_1 _))))
    show wpAny _ _ (field (.ref e) 2 >>= _) _ _ _
    refine wpAny_bind (wpAny_field en rfl (x := .ref it) rfl ?_)
    refine wpAny_bind (wpAny_nextOf_tuple_end (show Y.A.in1.handled = none from J.ok.hd calm) ti isT (by simp; omega) fun h' x kp cl => ?_)
    obtain ⟨o, ho, hc⟩ := cl
    refine wpAny_bind (wpAny_isInstance (T := "StopIteration") (b := true) ⟨o, ho, hc⟩ isSubtype_stop ?_)
    exact wpAny_pure ⟨rfl, J.turned (t' := sh.toks) (fun b o hb q => kp b o hb q) f0 f1 f3 f4 f5⟩
  · obtain ⟨⟨_, en⟩, _⟩ := st
    exact wpAny_pyIter_enum en q
/-- enumerate of a list or a tuple -/
def iEnumR (K : PySem.W.Frag) (ta : TA) : TI := fun σ H R => ta σ H fun vs H1 => ∃ a xs, vs = [.ref a] ∧ ((SqL K H1 a xs ∧ R (Ite K a) H1) ∨ (SqT K H1 a xs ∧ R (IteT K a) H1))
theorem pi_enumR {X : Cx} {e : Expr} {ta : TA} {p pos tpos : Pos} {elts : List Expr} {kk : Nat} (gl : Gl X "enumerate") (mn : X.mg "enumerate" = none) (ha : PA X [e] ta) (hs : starEach [e] X.env = [(false, eval e X.env)] := by rfl) :
    PI X (.Tuple elts kk tpos) (.Call (.Name "enumerate" p) [e] [] pos) (iEnumR X.K ta) := by
  refine ⟨fun pn sh σ G R J h => ?_⟩
  refine Call_ (ld_blt J gl mn boot_enumerate (PyProof.Rows.callWith_type1 (thn (ha.run pos pn sh σ G _ J h) fun us s1 ⟨vs, G1, J1, r1, q1⟩ => ?_) hs rfl))
  obtain ⟨a, xs, ex, q⟩ := q1
  subst ex
  obtain ⟨u, rfl, ru⟩ := vals1 r1
  cases (show u = Value.ref a from ru)
  have fp : ∀ b ∈ [s1.heap.objs.size + 1, s1.heap.objs.size], FpOk X pn G1 b := fun b hb => by
    have le : s1.heap.objs.size ≤ b := by
      have : b = s1.heap.objs.size + 1 ∨ b = s1.heap.objs.size := by simpa using hb
      omega
    exact J1.fpOk le (J1.hok.fresh le)
  rcases q with ⟨sq, q⟩ | ⟨sq, q⟩
  · obtain ⟨its, rel, isL, hz⟩ := J1.list sq
    refine enumCall (begins_list a its.toArray) isL.isList fun h' en it kp => wpAny_pyIter_enum en ?_
    exact ⟨_, [s1.heap.objs.size + 1, s1.heap.objs.size], _, _, G1, rfl, J1.kept (t' := s1.toks) kp, turn_enum a (s1.heap.objs.size + 1) s1.heap.objs.size, ⟨⟨.none, en⟩, ⟨_, it, rfl, rfl⟩, Nat.succ_ne_self _⟩, fp, q⟩
  · obtain ⟨its, rel, isT, hz⟩ := J1.tuple sq
    refine enumCall (begins_tuple a its.toArray) isT fun h' en it kp => wpAny_pyIter_enum en ?_
    exact ⟨_, [s1.heap.objs.size + 1, s1.heap.objs.size], _, _, G1, rfl, J1.kept (t' := s1.toks) kp, turnEnT a (s1.heap.objs.size + 1) s1.heap.objs.size, ⟨⟨.none, en⟩, ⟨_, it, rfl, rfl⟩, Nat.succ_ne_self _⟩, fp, q⟩
theorem walkEnT {K : PySem.W.Frag} {a : Addr} {xs : List V} : Walk (IteT K a) xs.length (fun H => SqT K H a xs) (YPair (fun i => some (.int (i : Nat))) (fun i => xs[i]?)) := by
  refine ⟨fun i _ lt t => ⟨xs, xs[i], t, by simp [lt]⟩, fun _ t => ⟨xs, t, Nat.le_refl _⟩, fun i H v H' _ t y => ?_⟩
  obtain ⟨T, x, y1, y2, y3, y4⟩ := y
  exact ⟨T, .int (i : Nat), x, y1, y2, y3, rfl, y4 xs t⟩
/-- a walk with numbers over a list or a tuple -/
theorem for_enumR {K : PySem.W.Frag} {g : TG} {tb : TS} {D : Ends} {σ : L2.St} {H00 H : Hp} {a : Addr} {xs : List V} (row : Row K H00 a xs) (s0 : Same H00 H) (Pv : Nat → L2.St → Hp → Prop) (h0 : Pv 0 σ H) (hG : ∀ i σ H', i ≤ xs.length → Pv i σ H' → Same H00 H')
    (hs : ∀ i x σ H' T, xs[i]? = some x → H' T = none → Pv i σ H' → g (.ref T) σ (upd H' T (.tup [.int (i : Nat), x])) fun σ2 H2 => tb { D with nx := Pv (i + 1), ct := Pv (i + 1), bk := D.nx } σ2 H2) (hd : ∀ σ H', Pv xs.length σ H' → D.nx σ H') :
    (SqL K H a xs ∧ ForGo (Ite K a) g tb D σ H) ∨ (SqT K H a xs ∧ ForGo (IteT K a) g tb D σ H) := by
  rcases row with r | r
  · refine .inl ⟨s0.seq r, for_it (walk_enum (K := K) (a := a) (xs := xs)) Pv h0 (fun i σ H' hi p => (hG i σ H' hi p).seq r) (fun i v σ H' H2 hi p ⟨T, x, y, e1, e2, e3, e4, e5⟩ => ?_) hd⟩
    subst e1 e3
    cases Option.some.inj e4
    exact hs i y σ H' T e5 e2 p
  · refine .inr ⟨sameT s0 r, for_it (walkEnT (K := K) (a := a) (xs := xs)) Pv h0 (fun i σ H' hi p => sameT (hG i σ H' hi p) r) (fun i v σ H' H2 hi p ⟨T, x, y, e1, e2, e3, e4, e5⟩ => ?_) hd⟩
    subst e1 e3
    cases Option.some.inj e4
    exact hs i y σ H' T e5 e2 p
theorem fr_enumR {K : PySem.W.Frag} {ta : TA} {g : TG} {tb : TS} {D : Ends} {σ : L2.St} {H : Hp} (h : ta σ H fun us H1 => ∃ a xs, us = [.ref a] ∧ ((SqL K H1 a xs ∧ ForGo (Ite K a) g tb D σ H1) ∨ (SqT K H1 a xs ∧ ForGo (IteT K a) g tb D σ H1))) : tFor (iEnumR K ta) g tb D σ H := h
end BK

namespace BK
open PySem PySem.Spec PyProof.Rows L2

/-! # worths and cells: things that stay are told whole; what may change is told by its cell -/
inductive W where
  | d (x : Dt) | o (i : Nat)
inductive Cell where
  | lst (ws : List W) | tup (ws : List W) | dK (kvs : List (Key × W)) | dT (kvs : List (List Key × W)) | ins (c : Addr) (fs : List (Str × W)) | fz
abbrev Cs := List Cell
abbrev Ws := List (Option W)
/-- hidden: an address of a cell that is not frozen -/
def Hid (ad : List Addr) (C : Cs) (b : Addr) : Prop := ∃ (i : Nat) (c : Cell), ad[i]? = some b ∧ C[i]? = some c ∧ c ≠ Cell.fz
open Classical in
noncomputable def low (ad : List Addr) (C : Cs) (H : Hp) : Hp := fun b => if Hid ad C b then none else H b
theorem low_at {ad : List Addr} {C : Cs} {H : Hp} {b : Addr} {o : HO} (h : low ad C H b = some o) : ¬ Hid ad C b ∧ H b = some o := by
  unfold low at h
  split at h
  · cases h
  · exact ⟨by assumption, h⟩
theorem low_of {ad : List Addr} {C : Cs} {H : Hp} {b : Addr} (h : ¬ Hid ad C b) : low ad C H b = H b := by
  unfold low
  rw [if_neg h]
theorem low_same (ad : List Addr) (C : Cs) (H : Hp) : Same (low ad C H) H := fun _ _ h => (low_at h).2
def RepW (K : PySem.W.Frag) (L : Hp) (ad : List Addr) (v : V) : W → Prop
  | .d x => At K L v x
  | .o i => ∃ a, ad[i]? = some a ∧ v = .ref a
abbrev RepWs (K : PySem.W.Frag) (L : Hp) (ad : List Addr) : List V → List W → Prop := Paired (RepW K L ad)
def RepC (K : PySem.W.Frag) (L : Hp) (ad : List Addr) (H : Hp) (a : Addr) : Cell → Prop
  | .lst ws => ∃ vs, H a = some (.lst vs) ∧ RepWs K L ad vs ws
  | .tup ws => ∃ vs, H a = some (.tup vs) ∧ RepWs K L ad vs ws
  | .dK kvs => ∃ ks, H a = some (.dK ks) ∧ Paired (fun p q => p.1 = q.1 ∧ RepW K L ad p.2 q.2) ks kvs
  | .dT kvs => ∃ ks, H a = some (.dT ks) ∧ Paired (fun p q => p.1 = q.1 ∧ RepW K L ad p.2 q.2) ks kvs
  | .ins c fs => ∃ dx gs, H a = some (.ins c dx gs) ∧ Paired (fun p q => p.1 = q.1 ∧ RepW K L ad p.2 q.2) gs fs
  | .fz => True
structure HeapR (K : PySem.W.Frag) (ad : List Addr) (C : Cs) (H : Hp) : Prop where
  len : ad.length = C.length
  nd : ∀ (i j : Nat) a, ad[i]? = some a → ad[j]? = some a → i = j
  tr : ∀ (i : Nat) a, ad[i]? = some a → H a ≠ none
  rep : ∀ (i : Nat) a c, ad[i]? = some a → C[i]? = some c → RepC K (low ad C H) ad H a c
structure Grw (ad : List Addr) (C : Cs) (H : Hp) (ad' : List Addr) (C' : Cs) (H' : Hp) : Prop where
  pre : ∀ (i : Nat) a, ad[i]? = some a → ad'[i]? = some a
  low : Same (low ad C H) (low ad' C' H')
section
variable {K : PySem.W.Frag} {L L' H H' H1 H2 : Hp} {ad ad' ad1 ad2 : List Addr} {C C' C1 C2 : Cs}
theorem Grw.refl : Grw ad C H ad C H := ⟨fun _ _ h => h, Same.refl _⟩
theorem Grw.trans (a : Grw ad C H ad1 C1 H1) (b : Grw ad1 C1 H1 ad2 C2 H2) : Grw ad C H ad2 C2 H2 := ⟨fun i x h => b.pre i x (a.pre i x h), a.low.trans b.low⟩
theorem RepW.mono {v : V} {w : W} (h : RepW K L ad v w) (e : Same L L') (p : ∀ (i : Nat) a, ad[i]? = some a → ad'[i]? = some a) : RepW K L' ad' v w := by
  cases w with
  | d x => exact At.same e x v h
  | o i => obtain ⟨a, h1, h2⟩ := h; exact ⟨a, p i a h1, h2⟩
theorem RepW.grw {v : V} {w : W} (h : RepW K (low ad C H) ad v w) (g : Grw ad C H ad' C' H') : RepW K (low ad' C' H') ad' v w := h.mono g.low g.pre
theorem RepWs.mono {vs : List V} {ws : List W} (h : RepWs K L ad vs ws) (e : Same L L') (p : ∀ (i : Nat) a, ad[i]? = some a → ad'[i]? = some a) : RepWs K L' ad' vs ws := prd_same (fun _ _ r => RepW.mono r e p) h
theorem RepWs.grw {vs : List V} {ws : List W} (h : RepWs K (low ad C H) ad vs ws) (g : Grw ad C H ad' C' H') : RepWs K (low ad' C' H') ad' vs ws := RepWs.mono h g.low g.pre
theorem RepC.mono {a : Addr} {c : Cell} (h : RepC K L ad H a c) (eH : H' a = H a) (e : Same L L') (p : ∀ (i : Nat) a, ad[i]? = some a → ad'[i]? = some a) : RepC K L' ad' H' a c := by
  have kv : ∀ {κ : Type} {ks : List (κ × V)} {kvs : List (κ × W)}, Paired (fun p q => p.1 = q.1 ∧ RepW K L ad p.2 q.2) ks kvs → Paired (fun p q => p.1 = q.1 ∧ RepW K L' ad' p.2 q.2) ks kvs := fun h => prd_same (fun _ _ r => ⟨r.1, r.2.mono e p⟩) h
  cases c with
  | lst ws => obtain ⟨vs, h1, h2⟩ := h; exact ⟨vs, eH.trans h1, RepWs.mono h2 e p⟩
  | tup ws => obtain ⟨vs, h1, h2⟩ := h; exact ⟨vs, eH.trans h1, RepWs.mono h2 e p⟩
  | dK ws => obtain ⟨vs, h1, h2⟩ := h; exact ⟨vs, eH.trans h1, kv h2⟩
  | dT ws => obtain ⟨vs, h1, h2⟩ := h; exact ⟨vs, eH.trans h1, kv h2⟩
  | ins c ws => obtain ⟨dx, vs, h1, h2⟩ := h; exact ⟨dx, vs, eH.trans h1, kv h2⟩
  | fz => trivial
/-- the heap grows by things beside -/
theorem low_mono (e : Same H H') : Same (low ad C H) (low ad C H') := fun b o h => by
  obtain ⟨h1, h2⟩ := low_at h
  rw [low_of h1]
  exact e _ _ h2
theorem HeapR.same (h : HeapR K ad C H) (e : Same H H') : HeapR K ad C H' := by
  refine ⟨h.len, h.nd, fun i a ha z => ?_, fun i a c ha hc => ?_⟩
  · have := e.free z
    exact h.tr i a ha this
  · refine (h.rep i a c ha hc).mono ?_ (low_mono e) (fun _ _ z => z)
    cases q : H a with
    | none => exact absurd q (h.tr i a ha)
    | some o => exact e _ _ q
theorem grw_same (e : Same H H') : Grw ad C H ad C H' := ⟨fun _ _ h => h, low_mono e⟩
theorem HeapR.get (h : HeapR K ad C H) {i : Nat} {c : Cell} (hc : C[i]? = some c) : ∃ a, ad[i]? = some a ∧ RepC K (low ad C H) ad H a c := by
  have : i < ad.length := by rw [h.len]; exact (List.getElem?_eq_some_iff.mp hc).1
  exact ⟨ad[i], List.getElem?_eq_getElem this, h.rep i _ c (List.getElem?_eq_getElem this) hc⟩
/-- a new cell -/
theorem low_new {a : Addr} {o : HO} {c : Cell} (hl : ad.length = C.length) (na : H a = none) (hc : c ≠ .fz) : low (ad ++ [a]) (C ++ [c]) (upd H a o) = low ad C H := by
  funext b
  by_cases e : b = a
  · subst e
    have h1 : Hid (ad ++ [b]) (C ++ [c]) b := ⟨ad.length, c, List.getElem?_concat_length, by rw [hl]; exact List.getElem?_concat_length, hc⟩
    unfold low
    rw [if_pos h1]
    split
    · rfl
    · exact na.symm
  · have h1 : Hid (ad ++ [a]) (C ++ [c]) b ↔ Hid ad C b := by
      constructor
      · rintro ⟨i, x, h1, h2, h3⟩
        by_cases hi : i < ad.length
        · rw [List.getElem?_append_left hi] at h1
          rw [List.getElem?_append_left (by omega)] at h2
          exact ⟨i, x, h1, h2, h3⟩
        · have : i = ad.length := by
            have := (List.getElem?_eq_some_iff.mp h1).1
            rw [List.length_append, List.length_singleton] at this
            omega
          subst this
          rw [List.getElem?_concat_length] at h1
          exact absurd (Option.some.inj h1).symm e
      · rintro ⟨i, x, h1, h2, h3⟩
        exact ⟨i, x, by rw [List.getElem?_append_left (List.getElem?_eq_some_iff.mp h1).1]; exact h1, by rw [List.getElem?_append_left (List.getElem?_eq_some_iff.mp h2).1]; exact h2, h3⟩
    unfold low
    rw [upd_ne e]
    by_cases h2 : Hid ad C b
    · rw [if_pos h2, if_pos (h1.mpr h2)]
    · rw [if_neg h2, if_neg (fun z => h2 (h1.mp z))]
theorem pre_new {a : Addr} : ∀ (i : Nat) b, ad[i]? = some b → (ad ++ [a])[i]? = some b := fun i b h => by
  rw [List.getElem?_append_left (List.getElem?_eq_some_iff.mp h).1]
  exact h
theorem HeapR.new {a : Addr} {o : HO} {c : Cell} (h : HeapR K ad C H) (na : H a = none) (hc : c ≠ .fz) (hr : RepC K (low ad C H) ad (upd H a o) a c) : HeapR K (ad ++ [a]) (C ++ [c]) (upd H a o) ∧ Grw ad C H (ad ++ [a]) (C ++ [c]) (upd H a o) := by
  have el := low_new (o := o) h.len na hc
  have nin : ∀ (i : Nat) b, ad[i]? = some b → b ≠ a := fun i b hb e => h.tr i b hb (by rw [e]; exact na)
  have split : ∀ (i : Nat) b, (ad ++ [a])[i]? = some b → (ad[i]? = some b ∧ i < ad.length) ∨ (i = ad.length ∧ b = a) := fun i b hb => by
    by_cases hi : i < ad.length
    · rw [List.getElem?_append_left hi] at hb
      exact .inl ⟨hb, hi⟩
    · have : i = ad.length := by
        have := (List.getElem?_eq_some_iff.mp hb).1
        rw [List.length_append, List.length_singleton] at this
        omega
      subst this
      rw [List.getElem?_concat_length] at hb
      exact .inr ⟨rfl, (Option.some.inj hb).symm⟩
  refine ⟨⟨by rw [List.length_append, List.length_append, h.len]; rfl, fun i j b hi hj => ?_, fun i b hb => ?_, fun i b x hb hx => ?_⟩, ⟨pre_new, by rw [el]; exact Same.refl _⟩⟩
  · rcases split i b hi with ⟨h1, _⟩ | ⟨h1, h2⟩ <;> rcases split j b hj with ⟨h3, _⟩ | ⟨h3, h4⟩
    · exact h.nd i j b h1 h3
    · exact absurd h4 (nin i b h1)
    · exact absurd h2 (nin j b h3)
    · rw [h1, h3]
  · rcases split i b hb with ⟨h1, _⟩ | ⟨h1, h2⟩
    · rw [upd_ne (nin i b h1)]
      exact h.tr i b h1
    · rw [h2, upd_same]
      exact nofun
  · rw [el]
    rcases split i b hb with ⟨h1, hi⟩ | ⟨h1, h2⟩
    · rw [List.getElem?_append_left (by rw [← h.len]; exact hi)] at hx
      exact (h.rep i b x h1 hx).mono (upd_ne (nin i b h1)) (Same.refl _) pre_new
    · subst h1 h2
      rw [h.len, List.getElem?_concat_length] at hx
      cases hx
      exact hr.mono rfl (Same.refl _) pre_new
theorem getE_set {α : Type} {xs : List α} {i j : Nat} {x : α} : (xs.set i x)[j]? = if i = j then (if i < xs.length then some x else none) else xs[j]? := by
  rw [List.getElem?_set]
/-- a cell is changed -/
theorem low_set {i : Nat} {a : Addr} {o : HO} {c c0 : Cell} (h : HeapR K ad C H) (ha : ad[i]? = some a) (h0 : C[i]? = some c0) (hn : c0 ≠ .fz) (hc : c ≠ .fz) : low ad (C.set i c) (upd H a o) = low ad C H := by
  have hi := (List.getElem?_eq_some_iff.mp h0).1
  funext b
  have h1 : Hid ad (C.set i c) b ↔ Hid ad C b := by
    constructor
    · rintro ⟨j, x, h1, h2, h3⟩
      by_cases e : i = j
      · subst e
        exact ⟨i, c0, h1, h0, hn⟩
      · rw [getE_set, if_neg e] at h2
        exact ⟨j, x, h1, h2, h3⟩
    · rintro ⟨j, x, h1, h2, h3⟩
      by_cases e : i = j
      · subst e
        exact ⟨i, c, h1, by rw [getE_set, if_pos rfl, if_pos hi], hc⟩
      · exact ⟨j, x, h1, by rw [getE_set, if_neg e]; exact h2, h3⟩
  by_cases e : b = a
  · subst e
    have h2 : Hid ad C b := ⟨i, c0, ha, h0, hn⟩
    unfold low
    rw [if_pos h2, if_pos (h1.mpr h2)]
  · unfold low
    rw [upd_ne e]
    by_cases h2 : Hid ad C b
    · rw [if_pos h2, if_pos (h1.mpr h2)]
    · rw [if_neg h2, if_neg (fun z => h2 (h1.mp z))]
theorem HeapR.set {i : Nat} {a : Addr} {o : HO} {c c0 : Cell} (h : HeapR K ad C H) (ha : ad[i]? = some a) (h0 : C[i]? = some c0) (hn : c0 ≠ .fz) (hc : c ≠ .fz) (hr : RepC K (low ad C H) ad (upd H a o) a c) : HeapR K ad (C.set i c) (upd H a o) ∧ Grw ad C H ad (C.set i c) (upd H a o) := by
  have el := low_set (o := o) (c := c) h ha h0 hn hc
  have hi := (List.getElem?_eq_some_iff.mp h0).1
  refine ⟨⟨by rw [List.length_set]; exact h.len, h.nd, fun j b hb => ?_, fun j b x hb hx => ?_⟩, ⟨fun _ _ z => z, by rw [el]; exact Same.refl _⟩⟩
  · by_cases e : b = a
    · rw [e, upd_same]
      exact nofun
    · rw [upd_ne e]
      exact h.tr j b hb
  · rw [el]
    by_cases e : i = j
    · subst e
      rw [getE_set, if_pos rfl, if_pos hi] at hx
      cases hx
      rw [ha] at hb
      cases hb
      exact hr
    · rw [getE_set, if_neg e] at hx
      exact (h.rep j b x hb hx).mono (upd_ne (fun z => e (h.nd i j a ha (by rw [← z]; exact hb)))) (Same.refl _) (fun _ _ z => z)
/-- a cell is frozen -/
theorem low_fz {i : Nat} : Same (low ad C H) (low ad (C.set i .fz) H) := fun b o h => by
  obtain ⟨h1, h2⟩ := low_at h
  rw [low_of (fun z => h1 ?_)]
  · exact h2
  · obtain ⟨j, x, z1, z2, z3⟩ := z
    by_cases e : i = j
    · subst e
      rw [getE_set, if_pos rfl] at z2
      split at z2
      · cases z2
        exact absurd rfl z3
      · cases z2
    · rw [getE_set, if_neg e] at z2
      exact ⟨j, x, z1, z2, z3⟩
theorem HeapR.fz {i : Nat} (h : HeapR K ad C H) : HeapR K ad (C.set i .fz) H ∧ Grw ad C H ad (C.set i .fz) H := by
  refine ⟨⟨by rw [List.length_set]; exact h.len, h.nd, h.tr, fun j b x hb hx => ?_⟩, ⟨fun _ _ z => z, low_fz⟩⟩
  by_cases e : i = j
  · subst e
    rw [getE_set, if_pos rfl] at hx
    split at hx
    · cases hx
      trivial
    · cases hx
  · rw [getE_set, if_neg e] at hx
    exact (h.rep j b x hb hx).mono rfl low_fz (fun _ _ z => z)
theorem low_fz_at {i : Nat} {a : Addr} (h : HeapR K ad C H) (ha : ad[i]? = some a) : low ad (C.set i .fz) H a = H a := by
  refine low_of ?_
  rintro ⟨j, x, z1, z2, z3⟩
  have := h.nd i j a ha z1
  subst this
  rw [getE_set, if_pos rfl] at z2
  split at z2
  · cases z2
    exact z3 rfl
  · cases z2
theorem ats_of {vs : List V} {ds : List Dt} (h : RepWs K L ad vs (ds.map W.d)) : Ats K L vs ds := by
  induction ds generalizing vs with
  | nil => cases h; unfold Ats; rfl
  | cons d ds ih =>
    cases h with
    | cons r t => unfold Ats; exact ⟨_, _, rfl, r, ih t⟩
theorem rep_ats {vs : List V} {ds : List Dt} (h : Ats K L vs ds) : RepWs K L ad vs (ds.map W.d) := by
  induction ds generalizing vs with
  | nil => unfold Ats at h; subst h; exact .nil
  | cons d ds ih => unfold Ats at h; obtain ⟨v, us, rfl, h1, h2⟩ := h; exact .cons h1 (ih h2)
theorem fz_lst {i : Nat} {a : Addr} {ds : List Dt} (h : HeapR K ad C H) (ha : ad[i]? = some a) (hc : C[i]? = some (.lst (ds.map W.d))) : At K (low ad (C.set i .fz) H) (.ref a) (.lst ds) := by
  obtain ⟨vs, h1, h2⟩ := h.rep i a _ ha hc
  unfold At
  exact ⟨a, vs, rfl, SqL.of (by rw [low_fz_at h ha]; exact h1), Ats.same low_fz _ _ (ats_of h2)⟩
theorem fz_tup {i : Nat} {a : Addr} {ds : List Dt} (h : HeapR K ad C H) (ha : ad[i]? = some a) (hc : C[i]? = some (.tup (ds.map W.d))) : At K (low ad (C.set i .fz) H) (.ref a) (.tup ds) := by
  obtain ⟨vs, h1, h2⟩ := h.rep i a _ ha hc
  unfold At
  exact ⟨a, vs, rfl, SqT.of (by rw [low_fz_at h ha]; exact h1), Ats.same low_fz _ _ (ats_of h2)⟩
/-- something new that stays -/
theorem low_put {a : Addr} {o : HO} (h : HeapR K ad C H) (na : H a = none) : low ad C (upd H a o) a = some o := by
  rw [low_of, upd_same]
  rintro ⟨i, x, z1, _⟩
  exact h.tr i a z1 na
theorem put_tup {a : Addr} {vs : List V} {ds : List Dt} (h : HeapR K ad C H) (na : H a = none) (hv : RepWs K (low ad C H) ad vs (ds.map W.d)) : At K (low ad C (upd H a (.tup vs))) (.ref a) (.tup ds) := by
  unfold At
  exact ⟨a, vs, rfl, SqT.of (low_put h na), Ats.same (low_mono (same_upd na)) _ _ (ats_of hv)⟩
theorem put_lst {a : Addr} {vs : List V} {ds : List Dt} (h : HeapR K ad C H) (na : H a = none) (hv : RepWs K (low ad C H) ad vs (ds.map W.d)) : At K (low ad C (upd H a (.lst vs))) (.ref a) (.lst ds) := by
  unfold At
  exact ⟨a, vs, rfl, SqL.of (low_put h na), Ats.same (low_mono (same_upd na)) _ _ (ats_of hv)⟩
end

/-! ## slots -/
structure SlotR (K : PySem.W.Frag) (L : Hp) (ad : List Addr) (σ : L2.St) (ρ : Ws) : Prop where
  len : σ.length = ρ.length
  get : ∀ (i : Nat) w, ρ[i]? = some (some w) → ∃ v, σ[i]? = some (some v) ∧ RepW K L ad v w
section
variable {K : PySem.W.Frag} {L L' H H' H1 H2 : Hp} {ad ad' ad1 ad2 : List Addr} {C C' C1 C2 : Cs} {σ : L2.St} {ρ : Ws}
theorem SlotR.mono (h : SlotR K L ad σ ρ) (e : Same L L') (p : ∀ (i : Nat) a, ad[i]? = some a → ad'[i]? = some a) : SlotR K L' ad' σ ρ := ⟨h.len, fun i w hw => by
  obtain ⟨v, h1, h2⟩ := h.get i w hw
  exact ⟨v, h1, h2.mono e p⟩⟩
theorem SlotR.grw (h : SlotR K (low ad C H) ad σ ρ) (g : Grw ad C H ad' C' H') : SlotR K (low ad' C' H') ad' σ ρ := h.mono g.low g.pre
theorem SlotR.set (h : SlotR K L ad σ ρ) {v : V} {w : W} (r : RepW K L ad v w) (i : Nat) : SlotR K L ad (σ.set i (some v)) (ρ.set i (some w)) := by
  refine ⟨by rw [List.length_set, List.length_set]; exact h.len, fun j x hx => ?_⟩
  by_cases e : i = j
  · subst e
    rw [getE_set, if_pos rfl] at hx ⊢
    split at hx
    · cases hx
      rename_i hlt
      rw [if_pos (by rw [h.len]; exact hlt)]
      exact ⟨v, rfl, r⟩
    · cases hx
  · rw [getE_set, if_neg e] at hx ⊢
    exact h.get j x hx
theorem SlotR.unset (h : SlotR K L ad σ ρ) (i : Nat) : SlotR K L ad (σ.set i none) (ρ.set i none) := by
  refine ⟨by rw [List.length_set, List.length_set]; exact h.len, fun j x hx => ?_⟩
  by_cases e : i = j
  · subst e
    rw [getE_set, if_pos rfl] at hx
    split at hx <;> cases hx
  · rw [getE_set, if_neg e] at hx ⊢
    exact h.get j x hx
def wipeW (ρ : Ws) : List Nat → Ws
  | [] => ρ
  | v :: vs => (wipeW ρ vs).set v none
theorem SlotR.wipe (h : SlotR K L ad σ ρ) : ∀ vs : List Nat, SlotR K L ad (L2.wipe σ vs) (wipeW ρ vs)
  | [] => h
  | v :: vs => (SlotR.wipe h vs).unset v
end

/-! ## readings over worths -/
abbrev TD := Ws → Cs → (W → Cs → Prop) → Prop
abbrev TDT := Ws → Cs → (Bool → Cs → Prop) → Prop
abbrev TDA := Ws → Cs → (List W → Cs → Prop) → Prop
abbrev TDO := Ws → Cs → (Option Int → Cs → Prop) → Prop
abbrev TDG := W → Ws → Cs → (Ws → Cs → Prop) → Prop
abbrev TDGs := List W → Ws → Cs → (Ws → Cs → Prop) → Prop
structure DEnds where
  nx : Ws → Cs → Prop
  rt : W → Cs → Prop
  bk : Ws → Cs → Prop := fun _ _ => False
  ct : Ws → Cs → Prop := fun _ _ => False
abbrev TDS := DEnds → Ws → Cs → Prop
def ContD (K : PySem.W.Frag) (ad : List Addr) (C : Cs) (H : Hp) (Qd : W → Cs → Prop) (Q : VK) : Prop := ∀ w C' v H' ad', Qd w C' → HeapR K ad' C' H' → Grw ad C H ad' C' H' → RepW K (low ad' C' H') ad' v w → Q v H'
def ContB (K : PySem.W.Frag) (ad : List Addr) (C : Cs) (H : Hp) (Qd : Bool → Cs → Prop) (Q : Bool → Hp → Prop) : Prop := ∀ b C' H' ad', Qd b C' → HeapR K ad' C' H' → Grw ad C H ad' C' H' → Q b H'
def ContO (K : PySem.W.Frag) (ad : List Addr) (C : Cs) (H : Hp) (Qd : Option Int → Cs → Prop) (Q : Option Int → Hp → Prop) : Prop := ∀ b C' H' ad', Qd b C' → HeapR K ad' C' H' → Grw ad C H ad' C' H' → Q b H'
def ContA (K : PySem.W.Frag) (ad : List Addr) (C : Cs) (H : Hp) (Qd : List W → Cs → Prop) (Q : List V → Hp → Prop) : Prop := ∀ ws C' vs H' ad', Qd ws C' → HeapR K ad' C' H' → Grw ad C H ad' C' H' → RepWs K (low ad' C' H') ad' vs ws → Q vs H'
def ContS (K : PySem.W.Frag) (ad : List Addr) (C : Cs) (H : Hp) (Qd : Ws → Cs → Prop) (Q : L2.St → Hp → Prop) : Prop := ∀ ρ' C' σ' H' ad', Qd ρ' C' → HeapR K ad' C' H' → Grw ad C H ad' C' H' → SlotR K (low ad' C' H') ad' σ' ρ' → Q σ' H'
structure EndsR (K : PySem.W.Frag) (ad : List Addr) (C : Cs) (H : Hp) (DD : DEnds) (D : Ends) : Prop where
  nx : ContS K ad C H DD.nx D.nx
  rt : ContD K ad C H DD.rt D.rt
  bk : ContS K ad C H DD.bk D.bk
  ct : ContS K ad C H DD.ct D.ct
section
variable {K : PySem.W.Frag} {H H' : Hp} {ad ad' : List Addr} {C C' : Cs}
theorem ContD.grw {Qd Q} (k : ContD K ad C H Qd Q) (g : Grw ad C H ad' C' H') : ContD K ad' C' H' Qd Q := fun w C2 v H2 ad2 q r g2 rv => k w C2 v H2 ad2 q r (g.trans g2) rv
theorem ContB.grw {Qd Q} (k : ContB K ad C H Qd Q) (g : Grw ad C H ad' C' H') : ContB K ad' C' H' Qd Q := fun b C2 H2 ad2 q r g2 => k b C2 H2 ad2 q r (g.trans g2)
theorem ContS.grw {Qd Q} (k : ContS K ad C H Qd Q) (g : Grw ad C H ad' C' H') : ContS K ad' C' H' Qd Q := fun b C2 s2 H2 ad2 q r g2 sr => k b C2 s2 H2 ad2 q r (g.trans g2) sr
theorem EndsR.grw {DD D} (k : EndsR K ad C H DD D) (g : Grw ad C H ad' C' H') : EndsR K ad' C' H' DD D := ⟨k.nx.grw g, k.rt.grw g, k.bk.grw g, k.ct.grw g⟩
end
class SimE (K : PySem.W.Frag) (t : TE) (d : outParam TD) : Prop where
  run : ∀ ρ C ad σ H Qd Q, HeapR K ad C H → SlotR K (low ad C H) ad σ ρ → d ρ C Qd → ContD K ad C H Qd Q → t σ H Q
class SimT (K : PySem.W.Frag) (t : TT) (d : outParam TDT) : Prop where
  run : ∀ ρ C ad σ H Qd Q, HeapR K ad C H → SlotR K (low ad C H) ad σ ρ → d ρ C Qd → ContB K ad C H Qd Q → t σ H Q
class SimO (K : PySem.W.Frag) (t : TO) (d : outParam TDO) : Prop where
  run : ∀ ρ C ad σ H Qd Q, HeapR K ad C H → SlotR K (low ad C H) ad σ ρ → d ρ C Qd → ContO K ad C H Qd Q → t σ H Q
class SimA (K : PySem.W.Frag) (t : TA) (d : outParam TDA) : Prop where
  run : ∀ ρ C ad σ H Qd Q, HeapR K ad C H → SlotR K (low ad C H) ad σ ρ → d ρ C Qd → ContA K ad C H Qd Q → t σ H Q
class SimG (K : PySem.W.Frag) (t : TG) (d : outParam TDG) : Prop where
  run : ∀ v w ρ C ad σ H Qd Q, HeapR K ad C H → SlotR K (low ad C H) ad σ ρ → RepW K (low ad C H) ad v w → d w ρ C Qd → ContS K ad C H Qd Q → t v σ H Q
class SimGs (K : PySem.W.Frag) (t : TGs) (d : outParam TDGs) : Prop where
  run : ∀ vs ws ρ C ad σ H Qd Q, HeapR K ad C H → SlotR K (low ad C H) ad σ ρ → RepWs K (low ad C H) ad vs ws → d ws ρ C Qd → ContS K ad C H Qd Q → t vs σ H Q
class SimS (K : PySem.W.Frag) (t : TS) (d : outParam TDS) : Prop where
  run : ∀ ρ C ad σ H DD D, HeapR K ad C H → SlotR K (low ad C H) ad σ ρ → d DD ρ C → EndsR K ad C H DD D → t D σ H
/-- rules by values: of arguments; of two; of one and arguments (a method); a slice -/
class LowA (K : PySem.W.Frag) (r : List V → Hp → VK → Prop) (d : outParam (List W → Cs → (W → Cs → Prop) → Prop)) : Prop where
  run : ∀ ws C ad vs H Qd Q, HeapR K ad C H → RepWs K (low ad C H) ad vs ws → d ws C Qd → ContD K ad C H Qd Q → r vs H Q
class Low1 (K : PySem.W.Frag) (r : V → Hp → VK → Prop) (d : outParam (W → Cs → (W → Cs → Prop) → Prop)) : Prop where
  run : ∀ x C ad v H Qd Q, HeapR K ad C H → RepW K (low ad C H) ad v x → d x C Qd → ContD K ad C H Qd Q → r v H Q
class Low2 (K : PySem.W.Frag) (r : R2) (d : outParam (W → W → Cs → (W → Cs → Prop) → Prop)) : Prop where
  run : ∀ x y C ad v u H Qd Q, HeapR K ad C H → RepW K (low ad C H) ad v x → RepW K (low ad C H) ad u y → d x y C Qd → ContD K ad C H Qd Q → r v u H Q
class LowM (K : PySem.W.Frag) (r : V → List V → Hp → VK → Prop) (d : outParam (W → List W → Cs → (W → Cs → Prop) → Prop)) : Prop where
  run : ∀ x ws C ad v vs H Qd Q, HeapR K ad C H → RepW K (low ad C H) ad v x → RepWs K (low ad C H) ad vs ws → d x ws C Qd → ContD K ad C H Qd Q → r v vs H Q
class LowSl (K : PySem.W.Frag) (r : V → Option Int → Option Int → Hp → VK → Prop) (d : outParam (W → Option Int → Option Int → Cs → (W → Cs → Prop) → Prop)) : Prop where
  run : ∀ x l u C ad v H Qd Q, HeapR K ad C H → RepW K (low ad C H) ad v x → d x l u C Qd → ContD K ad C H Qd Q → r v l u H Q
abbrev XD := Value → List (Str × W) → Cs → Prop
abbrev SpD := List W → Cs → (W → Cs → Prop) → XD → Prop
def ContX (K : PySem.W.Frag) (ad : List Addr) (C : Cs) (H : Hp) (Xd : XD) (E : XK) : Prop := ∀ cls fs C' d H' ad', Xd cls fs C' → HeapR K ad' C' H' → Grw ad C H ad' C' H' →
  ((d = none ∧ fs = []) ∨ ∃ a gs, d = some a ∧ H' a = some (.xd gs) ∧ Paired (fun p q => p.1 = q.1 ∧ RepW K (low ad' C' H') ad' p.2 q.2) gs fs) → E cls d H'
/-- a promise over worths -/
def lft (K : PySem.W.Frag) (sp : SpD) : Sp := fun vs H Q E => ∃ ws C ad Qd Xd, HeapR K ad C H ∧ RepWs K (low ad C H) ad vs ws ∧ sp ws C Qd Xd ∧ ContD K ad C H Qd Q ∧ ContX K ad C H Xd E
end BK

namespace BK
open PySem PySem.Spec PyProof.Rows L2

/-! ## rows of worths -/
def cd (z : Str) : List Nat := z.cps.toList
def allD : List W → Option (List Dt)
  | [] => some []
  | .d x :: ws => (allD ws).map (x :: ·)
  | .o _ :: _ => none
theorem allD_of : ∀ {ws : List W} {ds : List Dt}, allD ws = some ds → ws = ds.map W.d
  | [], ds, h => by cases h; rfl
  | .d x :: ws, ds, h => by
    unfold allD at h
    cases e : allD ws with
    | none => rw [e] at h; cases h
    | some es => rw [e] at h; cases h; rw [allD_of e]; rfl
  | .o _ :: _, _, h => by cases h
theorem allD_map : ∀ ds : List Dt, allD (ds.map W.d) = some ds
  | [] => rfl
  | d :: ds => by show (allD (ds.map W.d)).map (d :: ·) = _; rw [allD_map ds]; rfl
/-- a row, a list: what it holds -/
def rowW (C : Cs) : W → Option (List W)
  | .d (.lst ds) => some (ds.map W.d)
  | .d (.tup ds) => some (ds.map W.d)
  | .o i => match C[i]? with
    | some (.lst ws) => some ws
    | some (.tup ws) => some ws
    | _ => none
  | _ => none
def lstW (C : Cs) : W → Option (List W)
  | .d (.lst ds) => some (ds.map W.d)
  | .o i => match C[i]? with
    | some (.lst ws) => some ws
    | _ => none
  | _ => none
section
variable {K : PySem.W.Frag} {L L' H H' H1 H2 : Hp} {ad ad' ad1 ad2 : List Addr} {C C' C1 C2 : Cs} {v u : V} {w x y : W} {ws : List W}
theorem RepW.dAt {d : Dt} (h : RepW K (low ad C H) ad v (.d d)) : At K H v d := At.same (low_same _ _ _) _ _ h
theorem lst_of (h : HeapR K ad C H) (r : RepW K (low ad C H) ad v w) (e : lstW C w = some ws) : ∃ a xs, v = .ref a ∧ SqL K H a xs ∧ RepWs K (low ad C H) ad xs ws ∧ (∀ i, w = .o i → ad[i]? = some a ∧ H a = some (.lst xs)) := by
  cases w with
  | d d =>
    cases d with
    | lst ds =>
      cases e
      have r : At K (low ad C H) v (.lst ds) := r
      unfold At at r
      obtain ⟨a, xs, rfl, h1, h2⟩ := r
      exact ⟨a, xs, rfl, (low_same _ _ _).seq h1, rep_ats h2, fun i z => by cases z⟩
    | _ => cases e
  | o i =>
    obtain ⟨a, ha, rfl⟩ := r
    dsimp only [lstW] at e
    split at e
    · rename_i ws' hc
      cases e
      obtain ⟨vs, h1, h2⟩ := h.rep i a _ ha hc
      exact ⟨a, vs, rfl, SqL.of h1, h2, fun j z => by cases z; exact ⟨ha, h1⟩⟩
    · cases e
theorem row_of' (h : HeapR K ad C H) (r : RepW K (low ad C H) ad v w) (e : rowW C w = some ws) : ∃ a xs, v = .ref a ∧ Row K H a xs ∧ RepWs K (low ad C H) ad xs ws := by
  cases w with
  | d d =>
    cases d with
    | lst ds =>
      cases e
      have r : At K (low ad C H) v (.lst ds) := r
      unfold At at r
      obtain ⟨a, xs, rfl, h1, h2⟩ := r
      exact ⟨a, xs, rfl, .inl ((low_same _ _ _).seq h1), rep_ats h2⟩
    | tup ds =>
      cases e
      have r : At K (low ad C H) v (.tup ds) := r
      unfold At at r
      obtain ⟨a, xs, rfl, h1, h2⟩ := r
      exact ⟨a, xs, rfl, .inr (sameT (low_same _ _ _) h1), rep_ats h2⟩
    | _ => cases e
  | o i =>
    obtain ⟨a, ha, rfl⟩ := r
    dsimp only [rowW] at e
    split at e
    · rename_i ws' hc
      cases e
      obtain ⟨vs, h1, h2⟩ := h.rep i a _ ha hc
      exact ⟨a, vs, rfl, .inl (SqL.of h1), h2⟩
    · rename_i ws' hc
      cases e
      obtain ⟨vs, h1, h2⟩ := h.rep i a _ ha hc
      exact ⟨a, vs, rfl, .inr (SqT.of h1), h2⟩
    · cases e
theorem own_of {i : Nat} (h : HeapR K ad C H) (r : RepW K (low ad C H) ad v (.o i)) (e : C[i]? = some (.lst ws)) : ∃ a xs, v = .ref a ∧ H a = some (.lst xs) ∧ RepWs K (low ad C H) ad xs ws ∧ ad[i]? = some a := by
  obtain ⟨a, ha, rfl⟩ := r
  obtain ⟨vs, h1, h2⟩ := h.rep i a _ ha e
  exact ⟨a, vs, rfl, h1, h2, ha⟩
theorem new_lst {vs : List V} (h : HeapR K ad C H) (r : RepWs K (low ad C H) ad vs ws) {a : Addr} (na : H a = none) : HeapR K (ad ++ [a]) (C ++ [.lst ws]) (upd H a (.lst vs)) ∧ Grw ad C H (ad ++ [a]) (C ++ [.lst ws]) (upd H a (.lst vs)) ∧ RepW K (low (ad ++ [a]) (C ++ [.lst ws]) (upd H a (.lst vs))) (ad ++ [a]) (.ref a) (.o C.length) := by
  obtain ⟨h1, h2⟩ := h.new (o := .lst vs) (c := .lst ws) na (fun z => by cases z) ⟨vs, upd_same, r⟩
  exact ⟨h1, h2, a, by rw [← h.len]; exact List.getElem?_concat_length, rfl⟩
theorem new_tup {vs : List V} (h : HeapR K ad C H) (r : RepWs K (low ad C H) ad vs ws) {a : Addr} (na : H a = none) : HeapR K (ad ++ [a]) (C ++ [.tup ws]) (upd H a (.tup vs)) ∧ Grw ad C H (ad ++ [a]) (C ++ [.tup ws]) (upd H a (.tup vs)) ∧ RepW K (low (ad ++ [a]) (C ++ [.tup ws]) (upd H a (.tup vs))) (ad ++ [a]) (.ref a) (.o C.length) := by
  obtain ⟨h1, h2⟩ := h.new (o := .tup vs) (c := .tup ws) na (fun z => by cases z) ⟨vs, upd_same, r⟩
  exact ⟨h1, h2, a, by rw [← h.len]; exact List.getElem?_concat_length, rfl⟩
end
/-- a new list: an own one, or (of things alone) one that stays -/
def newL (ws : List W) (C : Cs) (Q : W → Cs → Prop) : Prop := Q (.o C.length) (C ++ [.lst ws]) ∨ ∃ ds, allD ws = some ds ∧ Q (.d (.lst ds)) C
def newT (ws : List W) (C : Cs) (Q : W → Cs → Prop) : Prop := match allD ws with
  | some ds => Q (.d (.tup ds)) C
  | none => Q (.o C.length) (C ++ [.tup ws])
theorem newL_run {K : PySem.W.Frag} {H : Hp} {ad : List Addr} {C : Cs} {ws : List W} {vs : List V} {Qd : W → Cs → Prop} {Q : VK} (h : HeapR K ad C H) (r : RepWs K (low ad C H) ad vs ws) (q : newL ws C Qd) (k : ContD K ad C H Qd Q) (a : Addr) (na : H a = none) : Q (.ref a) (upd H a (.lst vs)) := by
  rcases q with q | ⟨ds, e, q⟩
  · obtain ⟨h1, h2, h3⟩ := new_lst h r na
    exact k _ _ _ _ _ q h1 h2 h3
  · rw [allD_of e] at r
    exact k _ _ _ _ _ q (h.same (same_upd na)) (grw_same (same_upd na)) (put_lst h na r)
theorem newT_run {K : PySem.W.Frag} {H : Hp} {ad : List Addr} {C : Cs} {ws : List W} {vs : List V} {Qd : W → Cs → Prop} {Q : VK} (h : HeapR K ad C H) (r : RepWs K (low ad C H) ad vs ws) (q : newT ws C Qd) (k : ContD K ad C H Qd Q) (a : Addr) (na : H a = none) : Q (.ref a) (upd H a (.tup vs)) := by
  unfold newT at q
  split at q
  · rename_i ds e
    rw [allD_of e] at r
    exact k _ _ _ _ _ q (h.same (same_upd na)) (grw_same (same_upd na)) (put_tup h na r)
  · obtain ⟨h1, h2, h3⟩ := new_tup h r na
    exact k _ _ _ _ _ q h1 h2 h3

section
variable {K : PySem.W.Frag} {L : Hp} {ad : List Addr} {v : V}
theorem rw_bl {b : Bool} : RepW K L ad (.bl b) (.d (.bl b)) := by show At K L _ _; unfold At; rfl
theorem rw_int {i : Int} : RepW K L ad (.int i) (.d (.int i)) := by show At K L _ _; unfold At; rfl
theorem rw_non : RepW K L ad .non (.d .non) := by show At K L _ _; unfold At; rfl
theorem rw_str {z : List Nat} (h : z.length ≤ 1000000) : RepW K L ad (.str (tx z)) (.d (.str z)) := by show At K L _ _; unfold At; exact ⟨rfl, h⟩
theorem bl_at {b : Bool} (h : RepW K L ad v (.d (.bl b))) : v = .bl b := by
  have h : At K L v (.bl b) := h
  unfold At at h
  exact h
theorem int_at {b : Int} (h : RepW K L ad v (.d (.int b))) : v = .int b := by
  have h : At K L v (.int b) := h
  unfold At at h
  exact h
theorem non_at (h : RepW K L ad v (.d .non)) : v = .non := by
  have h : At K L v .non := h
  unfold At at h
  exact h
theorem str_at {z : List Nat} (h : RepW K L ad v (.d (.str z))) : v = .str (tx z) ∧ z.length ≤ 1000000 := by
  have h : At K L v (.str z) := h
  unfold At at h
  exact h
end
/-! ## expressions -/
section
variable {K : PySem.W.Frag}
def dVar (i : Nat) : TD := fun ρ C Q => match ρ[i]? with
  | some (some w) => Q w C
  | _ => False
instance {i : Nat} : SimE K (tVar i) (dVar i) := ⟨fun ρ C ad σ H Qd Q hR sR h k => by
  unfold dVar at h
  split at h
  · rename_i w hw
    obtain ⟨v, hv, r⟩ := sR.get i w hw
    exact ⟨v, hv, k w C v H ad h hR .refl r⟩
  · exact h.elim⟩
def dC (w : W) : TD := fun _ C Q => Q w C
instance : SimE K (tC .non) (dC (.d .non)) := ⟨fun ρ C ad σ H Qd Q hR sR h k => k _ C _ H ad h hR .refl rw_non⟩
instance {b : Bool} : SimE K (tC (.bl b)) (dC (.d (.bl b))) := ⟨fun ρ C ad σ H Qd Q hR sR h k => k _ C _ H ad h hR .refl rw_bl⟩
instance {i : Int} : SimE K (tC (.int i)) (dC (.d (.int i))) := ⟨fun ρ C ad σ H Qd Q hR sR h k => k _ C _ H ad h hR .refl rw_int⟩
/-- a written text -/
def tStrL (x : Str) : TE := fun _ H Q => x.length ≤ 1000000 → Q (.str x) H
theorem pe_strL {X : Cx} {x j pos} (h : x.length ≤ 1000000 := by decide +kernel) : PE X (.Constant (.str x) j pos) (tStrL x) := ⟨fun pins s σ H Q I q => pe_str.run pins s σ H Q I (q h)⟩
theorem atS_lit {K : PySem.W.Frag} {L : Hp} {x : Str} (h : x.length ≤ 1000000) : At K L (.str x) (.str (cd x)) := by
  unfold At
  refine ⟨?_, ?_⟩
  · unfold cd
    rw [tx_of]
  · unfold cd
    exact h
instance {x : Str} : SimE K (tStrL x) (dC (.d (.str (cd x)))) := ⟨fun ρ C ad σ H Qd Q hR sR h k hl => k _ C _ H ad h hR .refl (show At K (low ad C H) (.str x) (.str (cd x)) from atS_lit hl)⟩
def dNil : TDA := fun _ C Q => Q [] C
def dCons (a : TD) (r : TDA) : TDA := fun ρ C Q => a ρ C fun w C1 => r ρ C1 fun ws C2 => Q (w :: ws) C2
instance : SimA K tNil dNil := ⟨fun ρ C ad σ H Qd Q hR sR h k => k [] C [] H ad h hR .refl .nil⟩
instance {ta : TE} {da : TD} {tr : TA} {dr : TDA} [a : SimE K ta da] [r : SimA K tr dr] : SimA K (tCons ta tr) (dCons da dr) := ⟨fun ρ C ad σ H Qd Q hR sR h k =>
  a.run ρ C ad σ H _ _ hR sR h fun w C1 v H1 ad1 q1 hR1 g1 r1 => r.run ρ C1 ad1 σ H1 _ _ hR1 (sR.grw g1) q1 fun ws C2 vs H2 ad2 q2 hR2 g2 r2 => k _ C2 _ H2 ad2 q2 hR2 (g1.trans g2) (.cons (r1.grw g2) r2)⟩
def dTup (a : TDA) : TD := fun ρ C Q => a ρ C fun ws C1 => ws.length ≤ 16777216 ∧ newT ws C1 Q
def dLst (a : TDA) : TD := fun ρ C Q => a ρ C fun ws C1 => ws.length ≤ 16777216 ∧ newL ws C1 Q
theorem line_is : sizeLine = 16777216 := by decide
instance {t : TA} {d : TDA} [a : SimA K t d] : SimE K (tTup t) (dTup d) := ⟨fun ρ C ad σ H Qd Q hR sR h k =>
  a.run ρ C ad σ H _ _ hR sR h fun ws C1 vs H1 ad1 q1 hR1 g1 r1 => ⟨by rw [prd_len r1, line_is]; exact q1.1, fun p np => newT_run hR1 r1 q1.2 (k.grw g1) p np⟩⟩
instance {t : TA} {d : TDA} [a : SimA K t d] : SimE K (tLst t) (dLst d) := ⟨fun ρ C ad σ H Qd Q hR sR h k =>
  a.run ρ C ad σ H _ _ hR sR h fun ws C1 vs H1 ad1 q1 hR1 g1 r1 => ⟨by rw [prd_len r1, line_is]; exact q1.1, fun p np => newL_run hR1 r1 q1.2 (k.grw g1) p np⟩⟩
def dOp (r : W → W → Cs → (W → Cs → Prop) → Prop) (a b : TD) : TD := fun ρ C Q => a ρ C fun x C1 => b ρ C1 fun y C2 => r x y C2 Q
instance {r : R2} {rd : W → W → Cs → (W → Cs → Prop) → Prop} {ta tb : TE} {da db : TD} [l : Low2 K r rd] [a : SimE K ta da] [b : SimE K tb db] : SimE K (tOp r ta tb) (dOp rd da db) := ⟨fun ρ C ad σ H Qd Q hR sR h k =>
  a.run ρ C ad σ H _ _ hR sR h fun x C1 v H1 ad1 q1 hR1 g1 r1 => b.run ρ C1 ad1 σ H1 _ _ hR1 (sR.grw g1) q1 fun y C2 u H2 ad2 q2 hR2 g2 r2 => l.run x y C2 ad2 v u H2 _ _ hR2 (r1.grw g2) r2 q2 (k.grw (g1.trans g2))⟩
def dUn (r : W → Cs → (W → Cs → Prop) → Prop) (a : TD) : TD := fun ρ C Q => a ρ C fun x C1 => r x C1 Q
instance {r : V → Hp → VK → Prop} {rd : W → Cs → (W → Cs → Prop) → Prop} {ta : TE} {da : TD} [l : Low1 K r rd] [a : SimE K ta da] : SimE K (tUn r ta) (dUn rd da) := ⟨fun ρ C ad σ H Qd Q hR sR h k =>
  a.run ρ C ad σ H _ _ hR sR h fun x C1 v H1 ad1 q1 hR1 g1 r1 => l.run x C1 ad1 v H1 _ _ hR1 r1 q1 (k.grw g1)⟩
def dCB (r : List W → Cs → (W → Cs → Prop) → Prop) (a : TDA) : TD := fun ρ C Q => a ρ C fun ws C1 => r ws C1 Q
instance {r : List V → Hp → VK → Prop} {rd : List W → Cs → (W → Cs → Prop) → Prop} {ta : TA} {da : TDA} [l : LowA K r rd] [a : SimA K ta da] : SimE K (tCB r ta) (dCB rd da) := ⟨fun ρ C ad σ H Qd Q hR sR h k =>
  a.run ρ C ad σ H _ _ hR sR h fun ws C1 vs H1 ad1 q1 hR1 g1 r1 => l.run ws C1 ad1 vs H1 _ _ hR1 r1 q1 (k.grw g1)⟩
def X0 : XD := fun _ _ _ => False
def dCall (sp : SpD) (a : TDA) : TD := fun ρ C Q => a ρ C fun ws C1 => sp ws C1 Q X0
theorem contX0 {ad : List Addr} {C : Cs} {H : Hp} {E : XK} : ContX K ad C H X0 E := fun _ _ _ _ _ _ z => z.elim
instance {sp : SpD} {E : XK} {ta : TA} {da : TDA} [a : SimA K ta da] : SimE K (tCall (lft K sp) [] E ta) (dCall sp da) := ⟨fun ρ C ad σ H Qd Q hR sR h k =>
  a.run ρ C ad σ H _ _ hR sR h fun ws C1 vs H1 ad1 q1 hR1 g1 r1 => ⟨ws, C1, ad1, Qd, X0, hR1, by rw [List.append_nil]; exact r1, q1, k.grw g1, contX0⟩⟩
-- tests
def dB (a : TD) : TDT := fun ρ C Q => a ρ C fun w C1 => match w with
  | .d (.bl b) => Q b C1
  | _ => False
instance {t : TE} {d : TD} [a : SimE K t d] : SimT K (tB t) (dB d) := ⟨fun ρ C ad σ H Qd Q hR sR h k => a.run ρ C ad σ H _ _ hR sR h fun w C1 v H1 ad1 q1 hR1 g1 r1 => by
  split at q1
  · rename_i b
    exact ⟨b, bl_at r1, k b C1 H1 ad1 q1 hR1 g1⟩
  · exact q1.elim⟩
instance {t : TE} {d : TD} [a : SimE K t d] : SimT K (tTest t) (dB d) := ⟨fun ρ C ad σ H Qd Q hR sR h k => a.run ρ C ad σ H _ _ hR sR h fun w C1 v H1 ad1 q1 hR1 g1 r1 => by
  split at q1
  · rename_i b
    exact ⟨b, bl_at r1, k b C1 H1 ad1 q1 hR1 g1⟩
  · exact q1.elim⟩
def dNot (a : TDT) : TDT := fun ρ C Q => a ρ C fun b C1 => Q (!b) C1
instance {t : TT} {d : TDT} [a : SimT K t d] : SimT K (tNot t) (dNot d) := ⟨fun ρ C ad σ H Qd Q hR sR h k => a.run ρ C ad σ H _ _ hR sR h fun b C1 H1 ad1 q1 hR1 g1 => k _ C1 H1 ad1 q1 hR1 g1⟩
def dAnd (a b : TDT) : TDT := fun ρ C Q => a ρ C fun c C1 => if c = true then b ρ C1 Q else Q false C1
def dOr (a b : TDT) : TDT := fun ρ C Q => a ρ C fun c C1 => if c = true then Q true C1 else b ρ C1 Q
instance {t u : TT} {d e : TDT} [a : SimT K t d] [b : SimT K u e] : SimT K (tAnd t u) (dAnd d e) := ⟨fun ρ C ad σ H Qd Q hR sR h k => a.run ρ C ad σ H _ _ hR sR h fun c C1 H1 ad1 q1 hR1 g1 => by
  cases c with
  | true => exact b.run ρ C1 ad1 σ H1 _ _ hR1 (sR.grw g1) q1 (k.grw g1)
  | false => exact k false C1 H1 ad1 q1 hR1 g1⟩
instance {t u : TT} {d e : TDT} [a : SimT K t d] [b : SimT K u e] : SimT K (tOr t u) (dOr d e) := ⟨fun ρ C ad σ H Qd Q hR sR h k => a.run ρ C ad σ H _ _ hR sR h fun c C1 H1 ad1 q1 hR1 g1 => by
  cases c with
  | false => exact b.run ρ C1 ad1 σ H1 _ _ hR1 (sR.grw g1) q1 (k.grw g1)
  | true => exact k true C1 H1 ad1 q1 hR1 g1⟩
def dAndV (a b : TD) : TD := fun ρ C Q => a ρ C fun w C1 => match w with
  | .d (.bl c) => if c = true then b ρ C1 Q else Q (.d (.bl false)) C1
  | _ => False
def dOrV (a b : TD) : TD := fun ρ C Q => a ρ C fun w C1 => match w with
  | .d (.bl c) => if c = true then Q (.d (.bl true)) C1 else b ρ C1 Q
  | _ => False
def dNotV (a : TD) : TD := fun ρ C Q => a ρ C fun w C1 => match w with
  | .d (.bl c) => Q (.d (.bl (!c))) C1
  | _ => False
instance {t u : TE} {d e : TD} [a : SimE K t d] [b : SimE K u e] : SimE K (tAndV t u) (dAndV d e) := ⟨fun ρ C ad σ H Qd Q hR sR h k => a.run ρ C ad σ H _ _ hR sR h fun w C1 v H1 ad1 q1 hR1 g1 r1 => by
  split at q1
  · rename_i c
    refine ⟨c, bl_at r1, ?_⟩
    cases c with
    | true => exact b.run ρ C1 ad1 σ H1 _ _ hR1 (sR.grw g1) q1 (k.grw g1)
    | false => exact k _ C1 _ H1 ad1 q1 hR1 g1 rw_bl
  · exact q1.elim⟩
instance {t u : TE} {d e : TD} [a : SimE K t d] [b : SimE K u e] : SimE K (tOrV t u) (dOrV d e) := ⟨fun ρ C ad σ H Qd Q hR sR h k => a.run ρ C ad σ H _ _ hR sR h fun w C1 v H1 ad1 q1 hR1 g1 r1 => by
  split at q1
  · rename_i c
    refine ⟨c, bl_at r1, ?_⟩
    cases c with
    | false => exact b.run ρ C1 ad1 σ H1 _ _ hR1 (sR.grw g1) q1 (k.grw g1)
    | true => exact k _ C1 _ H1 ad1 q1 hR1 g1 rw_bl
  · exact q1.elim⟩
instance {t : TE} {d : TD} [a : SimE K t d] : SimE K (tNotV t) (dNotV d) := ⟨fun ρ C ad σ H Qd Q hR sR h k => a.run ρ C ad σ H _ _ hR sR h fun w C1 v H1 ad1 q1 hR1 g1 r1 => by
  split at q1
  · rename_i c
    exact ⟨c, bl_at r1, k _ C1 _ H1 ad1 q1 hR1 g1 rw_bl⟩
  · exact q1.elim⟩
def dIf (c : TDT) (a b : TD) : TD := fun ρ C Q => c ρ C fun x C1 => if x = true then a ρ C1 Q else b ρ C1 Q
instance {c : TT} {t u : TE} {dc : TDT} {d e : TD} [x : SimT K c dc] [a : SimE K t d] [b : SimE K u e] : SimE K (tIf c t u) (dIf dc d e) := ⟨fun ρ C ad σ H Qd Q hR sR h k => x.run ρ C ad σ H _ _ hR sR h fun z C1 H1 ad1 q1 hR1 g1 => by
  cases z with
  | true => exact a.run ρ C1 ad1 σ H1 _ _ hR1 (sR.grw g1) q1 (k.grw g1)
  | false => exact b.run ρ C1 ad1 σ H1 _ _ hR1 (sR.grw g1) q1 (k.grw g1)⟩
def dChain (r r' : W → W → Cs → (W → Cs → Prop) → Prop) (a b c : TD) : TD := fun ρ C Q => a ρ C fun x C1 => b ρ C1 fun y C2 => r x y C2 fun z C3 => match z with
  | .d (.bl k) => if k = true then c ρ C3 fun t C4 => r' y t C4 Q else Q (.d (.bl false)) C3
  | _ => False
def dNoPart : TDO := fun _ C Q => Q none C
def dPart (a : TD) : TDO := fun ρ C Q => a ρ C fun w C1 => match w with
  | .d (.int i) => Q (some i) C1
  | _ => False
instance : SimO K tNoPart dNoPart := ⟨fun ρ C ad σ H Qd Q hR sR h k => k none C H ad h hR .refl⟩
instance {t : TE} {d : TD} [a : SimE K t d] : SimO K (tPart t) (dPart d) := ⟨fun ρ C ad σ H Qd Q hR sR h k => a.run ρ C ad σ H _ _ hR sR h fun w C1 v H1 ad1 q1 hR1 g1 r1 => by
  split at q1
  · rename_i i
    exact ⟨i, int_at r1, k _ C1 H1 ad1 q1 hR1 g1⟩
  · exact q1.elim⟩
def dSl (r : W → Option Int → Option Int → Cs → (W → Cs → Prop) → Prop) (e : TD) (l h : TDO) : TD := fun ρ C Q => e ρ C fun x C1 => l ρ C1 fun i C2 => h ρ C2 fun j C3 => r x i j C3 Q
end
end BK

namespace BK
open PySem PySem.Spec PyProof.Rows L2

/-! ## targets -/
section
variable {K : PySem.W.Frag}
def dName (i : Nat) : TDG := fun w ρ C Q => Q (ρ.set i (some w)) C
instance {i : Nat} : SimG K (gName i) (dName i) := ⟨fun v w ρ C ad σ H Qd Q hR sR r h k => k _ C _ H ad h hR .refl (sR.set r i)⟩
def dgNil : TDGs := fun ws ρ C Q => ws = [] ∧ Q ρ C
def dgCons (t : TDG) (u : TDGs) : TDGs := fun ws ρ C Q => match ws with
  | w :: r => t w ρ C fun ρ1 C1 => u r ρ1 C1 Q
  | [] => False
instance : SimGs K gNil dgNil := ⟨fun vs ws ρ C ad σ H Qd Q hR sR r h k => by
  obtain ⟨e, h⟩ := h
  subst e
  cases r
  exact ⟨rfl, k ρ C σ H ad h hR .refl sR⟩⟩
instance {t : TG} {u : TGs} {d : TDG} {e : TDGs} [a : SimG K t d] [b : SimGs K u e] : SimGs K (gCons t u) (dgCons d e) := ⟨fun vs ws ρ C ad σ H Qd Q hR sR r h k => by
  cases r with
  | nil => exact h.elim
  | cons r1 r2 => exact ⟨_, _, rfl, a.run _ _ ρ C ad σ H _ _ hR sR r1 h fun ρ1 C1 σ1 H1 ad1 q1 hR1 g1 s1 => b.run _ _ ρ1 C1 ad1 σ1 H1 _ _ hR1 s1 (RepWs.grw r2 g1) q1 (k.grw g1)⟩⟩
/-- a tuple's, or a row's, things to several targets -/
def dgTup (n : Nat) (t : TDGs) : TDG := fun w ρ C Q => match rowW C w with
  | some ws => ws.length = n ∧ t ws ρ C Q
  | none => False
instance {n : Nat} {t : TGs} {d : TDGs} [a : SimGs K t d] : SimG K (gSeq K n t) (dgTup n d) := ⟨fun v w ρ C ad σ H Qd Q hR sR r h k => by
  unfold dgTup at h
  split at h
  · rename_i ws e
    obtain ⟨p, xs, rfl, hr, hx⟩ := row_of' hR r e
    exact gSeq.row hr ((prd_len hx).trans h.1) (a.run xs ws ρ C ad σ H _ _ hR sR hx h.2 k)
  · exact h.elim⟩

/-! ## statements -/
def dNext : TDS := fun D ρ C => D.nx ρ C
def dSeq (t u : TDS) : TDS := fun D ρ C => t { D with nx := u D } ρ C
instance : SimS K tNext dNext := ⟨fun ρ C ad σ H DD D hR sR h k => k.nx ρ C σ H ad h hR .refl sR⟩
instance {t u : TS} {d e : TDS} [a : SimS K t d] [b : SimS K u e] : SimS K (tSeq t u) (dSeq d e) := ⟨fun ρ C ad σ H DD D hR sR h k =>
  a.run ρ C ad σ H { DD with nx := e DD } _ hR sR h ⟨fun ρ1 C1 σ1 H1 ad1 q1 hR1 g1 s1 => b.run ρ1 C1 ad1 σ1 H1 DD D hR1 s1 q1 (k.grw g1), k.rt, k.bk, k.ct⟩⟩
/-- the rest is stated once -/
def dCut (t u : TDS) : TDS := fun D ρ C => ∃ M : Ws → Cs → Prop, t { D with nx := M } ρ C ∧ ∀ ρ' C', M ρ' C' → u D ρ' C'
instance {t u : TS} {d e : TDS} [a : SimS K t d] [b : SimS K u e] : SimS K (C8.tCut t u) (dCut d e) := ⟨fun ρ C ad σ H DD D hR sR h k => by
  obtain ⟨M, h1, h2⟩ := h
  refine ⟨fun σ' H' => ∃ ρ' C' ad', M ρ' C' ∧ HeapR K ad' C' H' ∧ Grw ad C H ad' C' H' ∧ SlotR K (low ad' C' H') ad' σ' ρ', a.run ρ C ad σ H { DD with nx := M } _ hR sR h1 ⟨fun ρ1 C1 σ1 H1 ad1 q1 hR1 g1 s1 => ⟨ρ1, C1, ad1, q1, hR1, g1, s1⟩, k.rt, k.bk, k.ct⟩, ?_⟩
  rintro σ' H' ⟨ρ1, C1, ad1, q1, hR1, g1, s1⟩
  exact b.run ρ1 C1 ad1 σ' H' DD D hR1 s1 (h2 _ _ q1) (k.grw g1)⟩
def dBreak : TDS := fun D ρ C => D.bk ρ C
def dCont : TDS := fun D ρ C => D.ct ρ C
instance : SimS K tBreak dBreak := ⟨fun ρ C ad σ H DD D hR sR h k => k.bk ρ C σ H ad h hR .refl sR⟩
instance : SimS K tCont dCont := ⟨fun ρ C ad σ H DD D hR sR h k => k.ct ρ C σ H ad h hR .refl sR⟩
def dDrop (e : TD) : TDS := fun D ρ C => e ρ C fun _ C1 => D.nx ρ C1
instance {t : TE} {d : TD} [a : SimE K t d] : SimS K (tDrop t) (dDrop d) := ⟨fun ρ C ad σ H DD D hR sR h k => a.run ρ C ad σ H _ _ hR sR h fun w C1 v H1 ad1 q1 hR1 g1 r1 => k.nx ρ C1 σ H1 ad1 q1 hR1 g1 (sR.grw g1)⟩
def dRet (e : TD) : TDS := fun D ρ C => e ρ C D.rt
def dRetN : TDS := fun D _ C => D.rt (.d .non) C
instance {t : TE} {d : TD} [a : SimE K t d] : SimS K (tRet t) (dRet d) := ⟨fun ρ C ad σ H DD D hR sR h k => a.run ρ C ad σ H _ _ hR sR h k.rt⟩
instance : SimS K tRetN dRetN := ⟨fun ρ C ad σ H DD D hR sR h k => k.rt _ C _ H ad h hR .refl rw_non⟩
def dIfS (c : TDT) (t u : TDS) : TDS := fun D ρ C => c ρ C fun b C1 => if b = true then t D ρ C1 else u D ρ C1
instance {c : TT} {t u : TS} {x : TDT} {d e : TDS} [z : SimT K c x] [a : SimS K t d] [b : SimS K u e] : SimS K (tIfS c t u) (dIfS x d e) := ⟨fun ρ C ad σ H DD D hR sR h k => z.run ρ C ad σ H _ _ hR sR h fun y C1 H1 ad1 q1 hR1 g1 => by
  cases y with
  | true => exact a.run ρ C1 ad1 σ H1 DD D hR1 (sR.grw g1) q1 (k.grw g1)
  | false => exact b.run ρ C1 ad1 σ H1 DD D hR1 (sR.grw g1) q1 (k.grw g1)⟩
def dAsg (e : TD) (g : TDG) : TDS := fun D ρ C => e ρ C fun w C1 => g w ρ C1 D.nx
instance {t : TE} {g : TG} {d : TD} {dg : TDG} [a : SimE K t d] [b : SimG K g dg] : SimS K (tAsg t g) (dAsg d dg) := ⟨fun ρ C ad σ H DD D hR sR h k => a.run ρ C ad σ H _ _ hR sR h fun w C1 v H1 ad1 q1 hR1 g1 r1 => b.run v w ρ C1 ad1 σ H1 _ _ hR1 (sR.grw g1) r1 q1 (k.nx.grw g1)⟩
def dPar (i j : Nat) (a : TDA) : TDS := fun D ρ C => a ρ C fun ws C1 => match ws with
  | [w, x] => D.nx ((ρ.set i (some w)).set j (some x)) C1
  | _ => False
instance {i j : Nat} {t : TA} {d : TDA} [a : SimA K t d] : SimS K (tPar i j t) (dPar i j d) := ⟨fun ρ C ad σ H DD D hR sR h k => a.run ρ C ad σ H _ _ hR sR h fun ws C1 vs H1 ad1 q1 hR1 g1 r1 => by
  split at q1
  · rename_i w x
    cases r1 with
    | cons ra rr =>
      cases rr with
      | cons rb rr =>
        cases rr
        exact ⟨_, _, rfl, k.nx _ C1 _ H1 ad1 q1 hR1 g1 (((sR.grw g1).set ra i).set rb j)⟩
  · exact q1.elim⟩
/-- x += e, of whole numbers -/
def dAug (i : Nat) (f : Int → Int → Int) (e : TD) : TDS := fun D ρ C => match ρ[i]? with
  | some (some (.d (.int a))) => e ρ C fun w C1 => match w with
    | .d (.int b) => D.nx (ρ.set i (some (.d (.int (f a b))))) C1
    | _ => False
  | _ => False
instance {i : Nat} {f : Int → Int → Int} {t : TE} {d : TD} [a : SimE K t d] : SimS K (tAug i t (ipI f)) (dAug i f d) := ⟨fun ρ C ad σ H DD D hR sR h k => by
  unfold dAug at h
  split at h
  · rename_i x hx
    obtain ⟨v, hv, rv⟩ := sR.get i _ hx
    refine ⟨v, hv, a.run ρ C ad σ H _ _ hR sR h fun w C1 u H1 ad1 q1 hR1 g1 r1 => ?_⟩
    split at q1
    · rename_i y
      exact ⟨x, y, int_at rv, int_at r1, k.nx _ C1 _ H1 ad1 q1 hR1 g1 ((sR.grw g1).set rw_int i)⟩
    · exact q1.elim
  · exact h.elim⟩
/-- while -/
def dWhile (c : TDT) (t : TDS) : TDS := fun D ρ C => ∃ I : Nat → Ws → Cs → Prop, (∃ m, I m ρ C) ∧ ∀ m ρ C, I m ρ C →
  c ρ C fun b C1 => if b = true then ∃ N : Ws → Cs → Prop, (∀ ρ' C', N ρ' C' → ∃ m', m' < m ∧ I m' ρ' C') ∧ t { D with nx := N, ct := N, bk := D.nx } ρ C1 else D.nx ρ C1
instance {c : TT} {t : TS} {x : TDT} {d : TDS} [z : SimT K c x] [a : SimS K t d] : SimS K (tWhile c t) (dWhile x d) := ⟨fun ρ C ad σ H DD D hR sR h k => by
  obtain ⟨I, ⟨m, h0⟩, h1⟩ := h
  refine ⟨fun m σ' H' => ∃ ρ' C' ad', I m ρ' C' ∧ HeapR K ad' C' H' ∧ Grw ad C H ad' C' H' ∧ SlotR K (low ad' C' H') ad' σ' ρ', ⟨m, ρ, C, ad, h0, hR, .refl, sR⟩, ?_⟩
  rintro m σ' H' ⟨ρ1, C1, ad1, q1, hR1, g1, s1⟩
  refine z.run ρ1 C1 ad1 σ' H' _ _ hR1 s1 (h1 m ρ1 C1 q1) fun b C2 H2 ad2 q2 hR2 g2 => ?_
  cases b with
  | false => exact k.nx ρ1 C2 σ' H2 ad2 q2 hR2 (g1.trans g2) (s1.grw g2)
  | true =>
    obtain ⟨N, n1, n2⟩ := q2
    refine ⟨fun σ3 H3 => ∃ ρ' C' ad', N ρ' C' ∧ HeapR K ad' C' H3 ∧ Grw ad C H ad' C' H3 ∧ SlotR K (low ad' C' H3) ad' σ3 ρ', ?_, ?_⟩
    · rintro σ3 H3 ⟨ρ3, C3, ad3, q3, hR3, g3, s3⟩
      obtain ⟨m', hm, i3⟩ := n1 ρ3 C3 q3
      exact ⟨m', hm, ρ3, C3, ad3, i3, hR3, g3, s3⟩
    · have g12 := g1.trans g2
      exact a.run ρ1 C2 ad2 σ' H2 { DD with nx := N, ct := N, bk := DD.nx } _ hR2 (s1.grw g2) n2 ⟨fun ρ3 C3 σ3 H3 ad3 q3 hR3 g3 s3 => ⟨ρ3, C3, ad3, q3, hR3, g12.trans g3, s3⟩, k.rt.grw g12, fun ρ3 C3 σ3 H3 ad3 q3 hR3 g3 s3 => k.nx ρ3 C3 σ3 H3 ad3 q3 hR3 (g12.trans g3) s3, fun ρ3 C3 σ3 H3 ad3 q3 hR3 g3 s3 => ⟨ρ3, C3, ad3, q3, hR3, g12.trans g3, s3⟩⟩⟩

/-! ## what is walked -/
abbrev ItD := Nat → Cs → Option W → Prop
abbrev TDI := Ws → Cs → (ItD → Cs → Prop) → Prop
structure LowIt (K : PySem.W.Frag) (ad : List Addr) (C : Cs) (H : Hp) (J : It) (JD : ItD) : Prop where
  stop : ∀ ad2 C2 H2 i, HeapR K ad2 C2 H2 → Grw ad C H ad2 C2 H2 → JD i C2 none → J.stop i H2
  go : ∀ ad2 C2 H2 i w, HeapR K ad2 C2 H2 → Grw ad C H ad2 C2 H2 → JD i C2 (some w) → J.go i H2
  yld : ∀ ad2 C2 H2 i w x H3, HeapR K ad2 C2 H2 → Grw ad C H ad2 C2 H2 → JD i C2 (some w) → J.yld i H2 x H3 → HeapR K ad2 C2 H3 ∧ Grw ad2 C2 H2 ad2 C2 H3 ∧ RepW K (low ad2 C2 H3) ad2 x w
class SimI (K : PySem.W.Frag) (t : TI) (d : outParam TDI) : Prop where
  run : ∀ ρ C ad σ H Rd R, HeapR K ad C H → SlotR K (low ad C H) ad σ ρ → d ρ C Rd → (∀ J JD C' H' ad', Rd JD C' → HeapR K ad' C' H' → Grw ad C H ad' C' H' → LowIt K ad' C' H' J JD → R J H') → t σ H R
def itList (ws : List W) : ItD := fun i _ r => r = ws[i]?
def itOwn (k : Nat) : ItD := fun i C r => ∃ ws, C[k]? = some (.lst ws) ∧ r = ws[i]?
def itOwnT (k : Nat) : ItD := fun i C r => ∃ ws, C[k]? = some (.tup ws) ∧ r = ws[i]?
def itRng (lo : Int) (n : Nat) : ItD := fun i _ r => r = if i < n then some (.d (.int (lo + i))) else none
def dRng1 (a : TDA) : TDI := fun ρ C R => a ρ C fun ws C1 => match ws with
  | [.d (.int j)] => (-(2 ^ 62) ≤ j ∧ j < 2 ^ 62) ∧ R (itRng 0 j.toNat) C1
  | _ => False
def dRng2 (a : TDA) : TDI := fun ρ C R => a ρ C fun ws C1 => match ws with
  | [.d (.int i), .d (.int j)] => R (itRng i (j - i).toNat) C1
  | _ => False
theorem prd_atR {α β : Type} {R : α → β → Prop} {xs : List α} {ys : List β} (h : Paired R xs ys) : ∀ {i : Nat} {y : β}, ys[i]? = some y → ∃ x, xs[i]? = some x ∧ R x y := by
  intro i y hy
  have hi := (List.getElem?_eq_some_iff.mp hy).1
  have hx : i < xs.length := by rw [prd_len h]; exact hi
  obtain ⟨y', hy', r⟩ := prd_at h (List.getElem?_eq_getElem hx)
  rw [hy] at hy'
  cases hy'
  exact ⟨_, List.getElem?_eq_getElem hx, r⟩
theorem low_rng {ad : List Addr} {C : Cs} {H : Hp} {lo : Int} {n : Nat} : LowIt K ad C H (Itr lo n) (itRng lo n) := by
  refine ⟨fun ad2 C2 H2 i hR g e => ?_, fun ad2 C2 H2 i w hR g e => ?_, fun ad2 C2 H2 i w x H3 hR g e y => ?_⟩
  · have e : none = if i < n then some (W.d (.int (lo + i))) else none := e
    show n ≤ i
    split at e
    · cases e
    · omega
  · have e : some w = if i < n then some (W.d (.int (lo + i))) else none := e
    show i < n
    split at e
    · assumption
    · cases e
  · have e : some w = if i < n then some (W.d (.int (lo + i))) else none := e
    obtain ⟨rfl, rfl⟩ := y
    split at e
    · cases e
      exact ⟨hR, .refl, rw_int⟩
    · cases e
theorem one_at {P : List V → Prop} {ws : List W} {L : Hp} {ad : List Addr} {vs : List V} (r : RepWs K L ad vs ws) {w : W} (e : ws = [w]) (h : ∀ v, RepW K L ad v w → P [v]) : P vs := by
  subst e
  cases r with
  | cons r1 rr => cases rr; exact h _ r1
instance {t : TA} {d : TDA} [a : SimA K t d] : SimI K (iRng1 t) (dRng1 d) := ⟨fun ρ C ad σ H Rd R hR sR h k => a.run ρ C ad σ H _ _ hR sR h fun ws C1 vs H1 ad1 q1 hR1 g1 r1 => by
  split at q1
  · rename_i j
    cases r1 with
    | cons ra rr =>
      cases rr
      exact ⟨j, by rw [int_at ra], q1.1.1, q1.1.2, k _ _ C1 H1 ad1 q1.2 hR1 g1 low_rng⟩
  · exact q1.elim⟩
instance {t : TA} {d : TDA} [a : SimA K t d] : SimI K (iRng2L t) (dRng2 d) := ⟨fun ρ C ad σ H Rd R hR sR h k => a.run ρ C ad σ H _ _ hR sR h fun ws C1 vs H1 ad1 q1 hR1 g1 r1 => by
  split at q1
  · rename_i i j
    cases r1 with
    | cons ra rr =>
      cases rr with
      | cons rb rr =>
        cases rr
        exact ⟨i, j, by rw [int_at ra, int_at rb], k _ _ C1 H1 ad1 q1 hR1 g1 low_rng⟩
  · exact q1.elim⟩
def rowIt (C : Cs) : W → Option ItD
  | .d (.lst ds) => some (itList (ds.map W.d))
  | .d (.tup ds) => some (itList (ds.map W.d))
  | .o k => match C[k]? with
    | some (.lst _) => some (itOwn k)
    | some (.tup _) => some (itOwnT k)
    | _ => none
  | _ => none
def dSeqI (e : TD) : TDI := fun ρ C R => e ρ C fun w C1 => match rowIt C1 w with
  | some J => R J C1
  | none => False
theorem low_lst {ad : List Addr} {C : Cs} {H : Hp} {a : Addr} {xs : List V} {ws : List W} (h : SqL K (low ad C H) a xs) (r : RepWs K (low ad C H) ad xs ws) : LowIt K ad C H (Itl K a) (itList ws) := by
  have sq : ∀ {ad2 C2 H2}, Grw ad C H ad2 C2 H2 → SqL K H2 a xs := fun g => (low_same _ _ _).seq (g.low.seq h)
  refine ⟨fun ad2 C2 H2 i hR g e => ?_, fun ad2 C2 H2 i w hR g e => ?_, fun ad2 C2 H2 i w x H3 hR g e y => ?_⟩
  · have e : none = ws[i]? := e
    exact ⟨xs, sq g, by rw [prd_len r]; exact List.getElem?_eq_none_iff.mp e.symm⟩
  · have e : some w = ws[i]? := e
    obtain ⟨x, hx, _⟩ := prd_atR r e.symm
    exact ⟨xs, x, sq g, hx⟩
  · have e : some w = ws[i]? := e
    obtain ⟨rfl, y⟩ := y
    have hx := y xs (sq g)
    obtain ⟨w', hw, rv⟩ := prd_at r hx
    rw [← e] at hw
    cases hw
    exact ⟨hR, .refl, rv.grw g⟩
theorem low_ltup {ad : List Addr} {C : Cs} {H : Hp} {a : Addr} {xs : List V} {ws : List W} (h : ∀ {ad2 C2 H2}, HeapR K ad2 C2 H2 → Grw ad C H ad2 C2 H2 → SqT K H2 a xs) (r : RepWs K (low ad C H) ad xs ws) : LowIt K ad C H (Itt K a) (itList ws) := by
  refine ⟨fun ad2 C2 H2 i hR g e => ?_, fun ad2 C2 H2 i w hR g e => ?_, fun ad2 C2 H2 i w x H3 hR g e y => ?_⟩
  · have e : none = ws[i]? := e
    exact ⟨xs, h hR g, by rw [prd_len r]; exact List.getElem?_eq_none_iff.mp e.symm⟩
  · have e : some w = ws[i]? := e
    obtain ⟨x, hx, _⟩ := prd_atR r e.symm
    exact ⟨xs, x, h hR g, hx⟩
  · have e : some w = ws[i]? := e
    obtain ⟨rfl, y⟩ := y
    have hx := y xs (h hR g)
    obtain ⟨w', hw, rv⟩ := prd_at r hx
    rw [← e] at hw
    cases hw
    exact ⟨hR, .refl, rv.grw g⟩
theorem low_own {ad : List Addr} {C : Cs} {H : Hp} {a : Addr} {k : Nat} (ha : ad[k]? = some a) : LowIt K ad C H (Itl K a) (itOwn k) := by
  refine ⟨fun ad2 C2 H2 i hR g e => ?_, fun ad2 C2 H2 i w hR g e => ?_, fun ad2 C2 H2 i w x H3 hR g e y => ?_⟩
  · obtain ⟨ws, hc, e⟩ := e
    obtain ⟨vs, h1, h2⟩ := hR.rep k a _ (g.pre k a ha) hc
    exact ⟨vs, SqL.of h1, by rw [prd_len h2]; exact List.getElem?_eq_none_iff.mp e.symm⟩
  · obtain ⟨ws, hc, e⟩ := e
    obtain ⟨vs, h1, h2⟩ := hR.rep k a _ (g.pre k a ha) hc
    obtain ⟨x, hx, _⟩ := prd_atR h2 e.symm
    exact ⟨vs, x, SqL.of h1, hx⟩
  · obtain ⟨ws, hc, e⟩ := e
    obtain ⟨rfl, y⟩ := y
    obtain ⟨vs, h1, h2⟩ := hR.rep k a _ (g.pre k a ha) hc
    have hx := y vs (SqL.of h1)
    obtain ⟨w', hw, rv⟩ := prd_at h2 hx
    rw [← e] at hw
    cases hw
    exact ⟨hR, .refl, rv⟩
theorem low_ownT {ad : List Addr} {C : Cs} {H : Hp} {a : Addr} {k : Nat} (ha : ad[k]? = some a) : LowIt K ad C H (Itt K a) (itOwnT k) := by
  refine ⟨fun ad2 C2 H2 i hR g e => ?_, fun ad2 C2 H2 i w hR g e => ?_, fun ad2 C2 H2 i w x H3 hR g e y => ?_⟩
  · obtain ⟨ws, hc, e⟩ := e
    obtain ⟨vs, h1, h2⟩ := hR.rep k a _ (g.pre k a ha) hc
    exact ⟨vs, SqT.of h1, by rw [prd_len h2]; exact List.getElem?_eq_none_iff.mp e.symm⟩
  · obtain ⟨ws, hc, e⟩ := e
    obtain ⟨vs, h1, h2⟩ := hR.rep k a _ (g.pre k a ha) hc
    obtain ⟨x, hx, _⟩ := prd_atR h2 e.symm
    exact ⟨vs, x, SqT.of h1, hx⟩
  · obtain ⟨ws, hc, e⟩ := e
    obtain ⟨rfl, y⟩ := y
    obtain ⟨vs, h1, h2⟩ := hR.rep k a _ (g.pre k a ha) hc
    have hx := y vs (SqT.of h1)
    obtain ⟨w', hw, rv⟩ := prd_at h2 hx
    rw [← e] at hw
    cases hw
    exact ⟨hR, .refl, rv⟩
/-- a list or a tuple is walked, told behind its making -/
def iRow (K : PySem.W.Frag) (tl : TE) : TI := fun σ H R => tl σ H fun x H1 => ∃ a, x = .ref a ∧ (((∃ xs, SqL K H1 a xs) ∧ R (Itl K a) H1) ∨ ((∃ xs, SqT K H1 a xs) ∧ R (Itt K a) H1))
theorem pi_row (K : PySem.W.Frag) {X : Cx} {tg l : PySem.Expr} {tl : TE} (hl : PE X l tl) (hK : X.K = K := by rfl) : PI X tg l (iRow K tl) := by
  subst hK
  refine ⟨fun pn sh σ G R J h => thn (hl.run pn sh σ G _ J h) fun v s1 ⟨x, G1, J1, r1, q1⟩ => ?_⟩
  obtain ⟨a, rfl, q1⟩ := q1
  cases r1
  have fp : ∀ b ∈ [s1.heap.objs.size], FpOk X pn G1 b := fun b hb => by
    rw [List.mem_singleton.mp hb]
    exact J1.fpOk (Nat.le_refl _) (J1.hok.fresh (Nat.le_refl _))
  have kp : ∀ (n : String) (fs : Array Value) b o, s1.heap.get? b = some o → (s1.heap.push { cls := .type n, data := .fields fs }).get? b = some o := fun _ _ b o e => Heap.get?_push_of_some _ e
  rcases q1 with ⟨⟨xs, hq⟩, q⟩ | ⟨⟨xs, hq⟩, q⟩
  · obtain ⟨us, rel, isL, hz⟩ := J1.list hq
    exact wpAny_pyIter_list isL.isList ⟨_, _, _, _, G1, rfl, J1.kept (t' := s1.toks) (kp _ _), turn_list a _, ⟨_, Heap.get?_push_size _ rfl, rfl, rfl⟩, fp, q⟩
  · obtain ⟨us, rel, isT, hz⟩ := J1.tuple hq
    exact wpAny_pyIter_tuple (show s1.heap.IsTuple a us.toArray from isT) ⟨_, _, _, _, G1, rfl, J1.kept (t' := s1.toks) (kp _ _), turn_tuple a _, ⟨_, Heap.get?_push_size _ rfl, rfl, rfl⟩, fp, q⟩
instance {t : TE} {d : TD} [a : SimE K t d] : SimI K (iRow K t) (dSeqI d) := ⟨fun ρ C ad σ H Rd R hR sR h k => a.run ρ C ad σ H _ _ hR sR h fun w C1 v H1 ad1 q1 hR1 g1 r1 => by
  split at q1
  · rename_i J e
    cases w with
    | d x =>
      cases x with
      | lst ds =>
        cases e
        have r2 : At K _ v (.lst ds) := r1
        unfold At at r2
        obtain ⟨p, xs, rfl, h1, h2⟩ := r2
        exact ⟨p, rfl, .inl ⟨⟨xs, (low_same _ _ _).seq h1⟩, k _ _ C1 H1 ad1 q1 hR1 g1 (low_lst h1 (rep_ats h2))⟩⟩
      | tup ds =>
        cases e
        have r2 : At K _ v (.tup ds) := r1
        unfold At at r2
        obtain ⟨p, xs, rfl, h1, h2⟩ := r2
        exact ⟨p, rfl, .inr ⟨⟨xs, sameT (low_same _ _ _) h1⟩, k _ _ C1 H1 ad1 q1 hR1 g1 (low_ltup (fun _ g => sameT ((g.low).trans (low_same _ _ _)) h1) (rep_ats h2))⟩⟩
      | _ => cases e
    | o j =>
      obtain ⟨p, hp, rfl⟩ := r1
      dsimp only [rowIt] at e
      split at e
      · rename_i ws hc
        cases e
        obtain ⟨vs, h1, h2⟩ := hR1.rep j p _ hp hc
        exact ⟨p, rfl, .inl ⟨⟨vs, SqL.of h1⟩, k _ _ C1 H1 ad1 q1 hR1 g1 (low_own hp)⟩⟩
      · rename_i ws hc
        cases e
        obtain ⟨vs, h1, h2⟩ := hR1.rep j p _ hp hc
        exact ⟨p, rfl, .inr ⟨⟨vs, SqT.of h1⟩, k _ _ C1 H1 ad1 q1 hR1 g1 (low_ownT hp)⟩⟩
      · cases e
  · exact q1.elim⟩
def dStrI (e : TD) : TDI := fun ρ C R => e ρ C fun w C1 => match w with
  | .d (.str z) => R (itList (z.map fun c => W.d (.str [c]))) C1
  | _ => False
theorem low_its {ad : List Addr} {C : Cs} {H : Hp} {z : List Nat} : LowIt K ad C H (Its (tx z)) (itList (z.map fun c => W.d (.str [c]))) := by
  have sz : (tx z).cps.size = z.length := by unfold tx; simp
  have gt : ∀ i : Nat, (tx z).cps[i]? = z[i]? := fun i => by unfold tx; simp
  refine ⟨fun ad2 C2 H2 i hR g e => ?_, fun ad2 C2 H2 i w hR g e => ?_, fun ad2 C2 H2 i w x H3 hR g e y => ?_⟩
  · have e : none = (z.map fun c => W.d (.str [c]))[i]? := e
    show (tx z).cps.size ≤ i
    have := List.getElem?_eq_none_iff.mp e.symm
    rw [List.length_map] at this
    omega
  · have e : some w = (z.map fun c => W.d (.str [c]))[i]? := e
    show i < (tx z).cps.size
    have := (List.getElem?_eq_some_iff.mp e.symm).1
    rw [List.length_map] at this
    omega
  · have e : some w = (z.map fun c => W.d (.str [c]))[i]? := e
    obtain ⟨rfl, c, hc, rfl⟩ := y
    rw [gt] at hc
    rw [List.getElem?_map, hc] at e
    cases e
    exact ⟨hR, .refl, rw_str (z := [c]) (by show 1 ≤ 1000000; decide)⟩
instance {t : TE} {d : TD} [a : SimE K t d] : SimI K (iStr t) (dStrI d) := ⟨fun ρ C ad σ H Rd R hR sR h k => a.run ρ C ad σ H _ _ hR sR h fun w C1 v H1 ad1 q1 hR1 g1 r1 => by
  split at q1
  · rename_i z
    exact ⟨_, (str_at r1).1, k _ _ C1 H1 ad1 q1 hR1 g1 low_its⟩
  · exact q1.elim⟩
/-- enumerate: pairs of a number and a thing -/
def itEnum (ws : List W) : ItD := fun i _ r => match ws[i]? with
  | none => r = none
  | some (.d x) => r = some (.d (.tup [.int (i : Nat), x]))
  | some (.o _) => False
def dEnum (a : TDA) : TDI := fun ρ C R => a ρ C fun ws C1 => match ws with
  | [.d (.lst ds)] => R (itEnum (ds.map W.d)) C1
  | [.d (.tup ds)] => R (itEnum (ds.map W.d)) C1
  | _ => False
theorem itEnum_some {ds : List Dt} {i : Nat} {C : Cs} {w : W} (h : itEnum (ds.map W.d) i C (some w)) : ∃ x, ds[i]? = some x ∧ w = .d (.tup [.int (i : Nat), x]) := by
  unfold itEnum at h
  rw [List.getElem?_map] at h
  cases e : ds[i]? with
  | none => rw [e] at h; cases h
  | some x => rw [e] at h; cases h; exact ⟨x, rfl, rfl⟩
theorem itEnum_none {ds : List Dt} {i : Nat} {C : Cs} (h : itEnum (ds.map W.d) i C none) : ds.length ≤ i := by
  unfold itEnum at h
  rw [List.getElem?_map] at h
  cases e : ds[i]? with
  | none => exact List.getElem?_eq_none_iff.mp e
  | some x => rw [e] at h; cases h
theorem enum_yld {ad ad2 : List Addr} {C C2 : Cs} {H H2 H3 : Hp} {xs : List V} {ds : List Dt} {i : Nat} {w : W} {x : V} (r : Ats K (low ad C H) xs ds) (hR : HeapR K ad2 C2 H2) (g : Grw ad C H ad2 C2 H2) (e : itEnum (ds.map W.d) i C2 (some w)) (y : YPair (fun i => some (.int (i : Nat))) (fun i => xs[i]?) i H2 x H3) :
    HeapR K ad2 C2 H3 ∧ Grw ad2 C2 H2 ad2 C2 H3 ∧ RepW K (low ad2 C2 H3) ad2 x w := by
  obtain ⟨z, hz, rfl⟩ := itEnum_some e
  obtain ⟨T, u, t, rfl, e2, rfl, e4, e5⟩ := y
  cases e4
  have e5 : xs[i]? = some t := e5
  obtain ⟨z', hz', az⟩ := r.at e5
  rw [hz] at hz'
  cases hz'
  refine ⟨hR.same (same_upd e2), grw_same (same_upd e2), ?_⟩
  refine put_tup (ds := [.int (i : Nat), z]) hR e2 (.cons rw_int (.cons ?_ .nil))
  exact At.same g.low _ _ az
theorem low_enum {ad : List Addr} {C : Cs} {H : Hp} {a : Addr} {xs : List V} {ds : List Dt} (h : SqL K (low ad C H) a xs) (r : Ats K (low ad C H) xs ds) : LowIt K ad C H (Ite K a) (itEnum (ds.map W.d)) := by
  have sq : ∀ {ad2 C2 H2}, Grw ad C H ad2 C2 H2 → SqL K H2 a xs := fun g => (low_same _ _ _).seq (g.low.seq h)
  have W0 := walk_enum (K := K) (a := a) (xs := xs)
  have ln := r.len
  refine ⟨fun ad2 C2 H2 i hR g e => ?_, fun ad2 C2 H2 i w hR g e => ?_, fun ad2 C2 H2 i w x H3 hR g e y => ?_⟩
  · exact ⟨xs, sq g, by have := itEnum_none e; omega⟩
  · obtain ⟨x, hx, rfl⟩ := itEnum_some e
    exact W0.1 i H2 (by have := (List.getElem?_eq_some_iff.mp hx).1; omega) (sq g)
  · obtain ⟨z, hz, _⟩ := itEnum_some e
    exact enum_yld r hR g e (W0.3 i H2 x H3 (by have := (List.getElem?_eq_some_iff.mp hz).1; omega) (sq g) y)
theorem low_enumT {ad : List Addr} {C : Cs} {H : Hp} {a : Addr} {xs : List V} {ds : List Dt} (h : SqT K (low ad C H) a xs) (r : Ats K (low ad C H) xs ds) : LowIt K ad C H (IteT K a) (itEnum (ds.map W.d)) := by
  have sq : ∀ {ad2 C2 H2}, Grw ad C H ad2 C2 H2 → SqT K H2 a xs := fun g => sameT (g.low.trans (low_same _ _ _)) h
  have W0 := walkEnT (K := K) (a := a) (xs := xs)
  have ln := r.len
  refine ⟨fun ad2 C2 H2 i hR g e => ?_, fun ad2 C2 H2 i w hR g e => ?_, fun ad2 C2 H2 i w x H3 hR g e y => ?_⟩
  · exact ⟨xs, sq g, by have := itEnum_none e; omega⟩
  · obtain ⟨x, hx, rfl⟩ := itEnum_some e
    exact W0.1 i H2 (by have := (List.getElem?_eq_some_iff.mp hx).1; omega) (sq g)
  · obtain ⟨z, hz, _⟩ := itEnum_some e
    exact enum_yld r hR g e (W0.3 i H2 x H3 (by have := (List.getElem?_eq_some_iff.mp hz).1; omega) (sq g) y)
instance {t : TA} {d : TDA} [a : SimA K t d] : SimI K (iEnumR K t) (dEnum d) := ⟨fun ρ C ad σ H Rd R hR sR h k => a.run ρ C ad σ H _ _ hR sR h fun ws C1 vs H1 ad1 q1 hR1 g1 r1 => by
  split at q1
  · rename_i ds
    cases r1 with
    | cons ra rr =>
      cases rr
      rename_i v
      have r2 : At K _ v (.lst ds) := ra
      unfold At at r2
      obtain ⟨p, xs, rfl, h1, h2⟩ := r2
      exact ⟨p, xs, rfl, .inl ⟨(low_same _ _ _).seq h1, k _ _ C1 H1 ad1 q1 hR1 g1 (low_enum h1 h2)⟩⟩
  · rename_i ds
    cases r1 with
    | cons ra rr =>
      cases rr
      rename_i v
      have r2 : At K _ v (.tup ds) := ra
      unfold At at r2
      obtain ⟨p, xs, rfl, h1, h2⟩ := r2
      exact ⟨p, xs, rfl, .inr ⟨sameT (low_same _ _ _) h1, k _ _ C1 H1 ad1 q1 hR1 g1 (low_enumT h1 h2)⟩⟩
  · exact q1.elim⟩

/-! ## for -/
def DFor (J : ItD) (g : TDG) (t : TDS) (D : DEnds) (ρ : Ws) (C : Cs) : Prop := ∃ I : Nat → Nat → Ws → Cs → Prop, (∃ m, I 0 m ρ C) ∧ ∀ i m ρ C, I i m ρ C → (J i C none ∧ D.nx ρ C) ∨ ∃ w, J i C (some w) ∧
  ∃ N : Ws → Cs → Prop, (∀ ρ' C', N ρ' C' → ∃ m', m' < m ∧ I (i + 1) m' ρ' C') ∧ g w ρ C fun ρ2 C2 => t { D with nx := N, ct := N, bk := D.nx } ρ2 C2
def dFor (wi : TDI) (g : TDG) (t : TDS) : TDS := fun D ρ C => wi ρ C fun J C1 => DFor J g t D ρ C1
instance {wi : TI} {g : TG} {t : TS} {di : TDI} {dg : TDG} {d : TDS} [a : SimI K wi di] [b : SimG K g dg] [c : SimS K t d] : SimS K (tFor wi g t) (dFor di dg d) := ⟨fun ρ C ad σ H DD D hR sR h k => a.run ρ C ad σ H _ _ hR sR h fun J JD C1 H1 ad1 q1 hR1 g1 lw => by
  obtain ⟨I, ⟨m, h0⟩, hs⟩ := q1
  refine ⟨fun i m σ' H' => ∃ ρ' C' ad', I i m ρ' C' ∧ HeapR K ad' C' H' ∧ Grw ad1 C1 H1 ad' C' H' ∧ SlotR K (low ad' C' H') ad' σ' ρ', ⟨m, ρ, C1, ad1, h0, hR1, .refl, sR.grw g1⟩, ?_⟩
  rintro i m σ' H' ⟨ρ2, C2, ad2, i2, hR2, g2, s2⟩
  rcases hs i m ρ2 C2 i2 with ⟨st, q⟩ | ⟨w, hw, N, n1, n2⟩
  · exact .inl ⟨lw.stop ad2 C2 H' i hR2 g2 st, k.nx ρ2 C2 σ' H' ad2 q hR2 (g1.trans g2) s2⟩
  · refine .inr ⟨lw.go ad2 C2 H' i w hR2 g2 hw, fun σ3 H3 => ∃ ρ' C' ad', N ρ' C' ∧ HeapR K ad' C' H3 ∧ Grw ad1 C1 H1 ad' C' H3 ∧ SlotR K (low ad' C' H3) ad' σ3 ρ', ?_, ?_⟩
    · rintro σ3 H3 ⟨ρ3, C3, ad3, q3, hR3, g3, s3⟩
      obtain ⟨m', hm, i3⟩ := n1 ρ3 C3 q3
      exact ⟨m', hm, ρ3, C3, ad3, i3, hR3, g3, s3⟩
    · intro x H3 y
      obtain ⟨hR3, g3, rx⟩ := lw.yld ad2 C2 H' i w x H3 hR2 g2 hw y
      refine b.run x w ρ2 C2 ad2 σ' H3 _ _ hR3 (s2.grw g3) rx n2 fun ρ4 C4 σ4 H4 ad4 q4 hR4 g4 s4 => ?_
      have g14 := g2.trans (g3.trans g4)
      have g04 := g1.trans g14
      exact c.run ρ4 C4 ad4 σ4 H4 { DD with nx := N, ct := N, bk := DD.nx } _ hR4 s4 q4 ⟨fun ρ5 C5 σ5 H5 ad5 q5 hR5 g5 s5 => ⟨ρ5, C5, ad5, q5, hR5, g14.trans g5, s5⟩, k.rt.grw g04, fun ρ5 C5 σ5 H5 ad5 q5 hR5 g5 s5 => k.nx ρ5 C5 σ5 H5 ad5 q5 hR5 (g04.trans g5) s5, fun ρ5 C5 σ5 H5 ad5 q5 hR5 g5 s5 => ⟨ρ5, C5, ad5, q5, hR5, g14.trans g5, s5⟩⟩⟩
section
variable {g : TDG} {t : TDS} {D : DEnds} {ρ : Ws} {C : Cs}
/-- a for over n things, whatever J says of the i-th -/
theorem DFor.by {J : ItD} (n : Nat) (f : Nat → W) (P : Nat → Ws → Cs → Prop) (h0 : P 0 ρ C) (hn : ∀ ρ C, P n ρ C → J n C none ∧ D.nx ρ C)
    (hs : ∀ i ρ C, i < n → P i ρ C → J i C (some (f i)) ∧ g (f i) ρ C fun ρ2 C2 => t { D with nx := P (i + 1), ct := P (i + 1), bk := D.nx } ρ2 C2) : DFor J g t D ρ C := by
  refine ⟨fun i m ρ C => m = n - i ∧ i ≤ n ∧ P i ρ C, ⟨n, rfl, Nat.zero_le _, h0⟩, ?_⟩
  rintro i m ρ C ⟨rfl, hi, p⟩
  by_cases lt : i < n
  · obtain ⟨j, q⟩ := hs i ρ C lt p
    exact .inr ⟨f i, j, P (i + 1), fun ρ' C' p' => ⟨n - (i + 1), by omega, rfl, lt, p'⟩, q⟩
  · have e : i = n := by omega
    subst e
    exact .inl (hn ρ C p)
theorem DFor.range {lo : Int} {n : Nat} (P : Nat → Ws → Cs → Prop) (h0 : P 0 ρ C) (hn : ∀ ρ C, P n ρ C → D.nx ρ C)
    (hs : ∀ i ρ C, i < n → P i ρ C → g (.d (.int (lo + i))) ρ C fun ρ2 C2 => t { D with nx := P (i + 1), ct := P (i + 1), bk := D.nx } ρ2 C2) : DFor (itRng lo n) g t D ρ C :=
  DFor.by n (fun i => .d (.int (lo + i))) P h0 (fun ρ C p => ⟨(if_neg (Nat.lt_irrefl n)).symm, hn ρ C p⟩) fun i ρ C hi p => ⟨(if_pos hi).symm, hs i ρ C hi p⟩
theorem DFor.list {ws : List W} (P : Nat → Ws → Cs → Prop) (h0 : P 0 ρ C) (hn : ∀ ρ C, P ws.length ρ C → D.nx ρ C)
    (hs : ∀ i w ρ C, ws[i]? = some w → P i ρ C → g w ρ C fun ρ2 C2 => t { D with nx := P (i + 1), ct := P (i + 1), bk := D.nx } ρ2 C2) : DFor (itList ws) g t D ρ C := by
  refine DFor.by ws.length (fun i => ws.getD i (.o 0)) P h0 (fun ρ C p => ⟨(List.getElem?_eq_none_iff.mpr (Nat.le_refl _)).symm, hn ρ C p⟩) fun i ρ C hi p => ?_
  have e : ws[i]? = some (ws.getD i (.o 0)) := by rw [List.getD_eq_getElem?_getD, List.getElem?_eq_getElem hi]; rfl
  exact ⟨e.symm, hs i _ ρ C e p⟩
theorem DFor.dlist {ds : List Dt} (P : Nat → Ws → Cs → Prop) (h0 : P 0 ρ C) (hn : ∀ ρ C, P ds.length ρ C → D.nx ρ C)
    (hs : ∀ i x ρ C, ds[i]? = some x → P i ρ C → g (.d x) ρ C fun ρ2 C2 => t { D with nx := P (i + 1), ct := P (i + 1), bk := D.nx } ρ2 C2) : DFor (itList (ds.map W.d)) g t D ρ C := by
  refine DFor.list P h0 (fun ρ C p => hn ρ C (by rw [List.length_map] at p; exact p)) fun i w ρ C hw p => ?_
  rw [List.getElem?_map] at hw
  cases e : ds[i]? with
  | none => rw [e] at hw; cases hw
  | some x => rw [e] at hw; cases hw; exact hs i x ρ C e p
theorem DFor.enum {ds : List Dt} (P : Nat → Ws → Cs → Prop) (h0 : P 0 ρ C) (hn : ∀ ρ C, P ds.length ρ C → D.nx ρ C)
    (hs : ∀ i x ρ C, ds[i]? = some x → P i ρ C → g (.d (.tup [.int (i : Nat), x])) ρ C fun ρ2 C2 => t { D with nx := P (i + 1), ct := P (i + 1), bk := D.nx } ρ2 C2) : DFor (itEnum (ds.map W.d)) g t D ρ C := by
  refine DFor.by ds.length (fun i => .d (.tup [.int (i : Nat), ds.getD i .non])) P h0 (fun ρ C p => ⟨?_, hn ρ C p⟩) fun i ρ C hi p => ?_
  · unfold itEnum
    rw [List.getElem?_map, List.getElem?_eq_none_iff.mpr (Nat.le_refl _)]
    rfl
  · have e : ds[i]? = some (ds.getD i .non) := by rw [List.getD_eq_getElem?_getD, List.getElem?_eq_getElem hi]; rfl
    refine ⟨?_, hs i _ ρ C e p⟩
    unfold itEnum
    rw [List.getElem?_map, e]
    rfl
theorem DFor.own {k : Nat} {ws : List W} (P : Nat → Ws → Cs → Prop) (h0 : P 0 ρ C) (hc : ∀ i ρ C, P i ρ C → C[k]? = some (.lst ws)) (hn : ∀ ρ C, P ws.length ρ C → D.nx ρ C)
    (hs : ∀ i w ρ C, ws[i]? = some w → P i ρ C → g w ρ C fun ρ2 C2 => t { D with nx := P (i + 1), ct := P (i + 1), bk := D.nx } ρ2 C2) : DFor (itOwn k) g t D ρ C := by
  refine DFor.by ws.length (fun i => ws.getD i (.o 0)) P h0 (fun ρ C p => ⟨⟨ws, hc _ ρ C p, (List.getElem?_eq_none_iff.mpr (Nat.le_refl _)).symm⟩, hn ρ C p⟩) fun i ρ C hi p => ?_
  have e : ws[i]? = some (ws.getD i (.o 0)) := by rw [List.getD_eq_getElem?_getD, List.getElem?_eq_getElem hi]; rfl
  exact ⟨⟨ws, hc _ ρ C p, e.symm⟩, hs i _ ρ C e p⟩
end
end
end BK

namespace BK
open PySem PySem.Spec PyProof.Rows L2

/-! ## cells that are forgotten -/
def cws : Cell → List W
  | .lst ws => ws
  | .tup ws => ws
  | .dK kvs => kvs.map (·.2)
  | .dT kvs => kvs.map (·.2)
  | .ins _ fs => fs.map (·.2)
  | .fz => []
def Clo (n : Nat) (c : Cell) : Prop := ∀ w ∈ cws c, ∀ k, w = .o k → k < n
structure Kp (C0 C1 : Cs) : Prop where
  len : C1.length = C0.length
  old : ∀ (i : Nat) c, C1[i]? = some c → C0[i]? = some c ∨ Clo C0.length c
theorem Kp.refl (C : Cs) : Kp C C := ⟨rfl, fun _ _ h => .inl h⟩
theorem clo_lst {n : Nat} {ws : List W} {ds : List Dt} (h : allD ws = some ds) : Clo n (.lst ws) := fun w hw k e => by
  rw [allD_of h] at hw
  obtain ⟨x, _, rfl⟩ := List.mem_map.mp (show w ∈ ds.map W.d from hw)
  cases e
theorem Kp.set {C0 C1 : Cs} (h : Kp C0 C1) {i : Nat} {c : Cell} (hc : Clo C0.length c) : Kp C0 (C1.set i c) := by
  refine ⟨by rw [List.length_set]; exact h.len, fun j x hx => ?_⟩
  by_cases e : i = j
  · subst e
    rw [getE_set, if_pos rfl] at hx
    split at hx
    · cases hx
      exact .inr hc
    · cases hx
  · rw [getE_set, if_neg e] at hx
    exact h.old j x hx
section
variable {K : PySem.W.Frag} {H H0 : Hp} {ad ad0 : List Addr} {C C0 C1 : Cs}
theorem mem_prd {α β : Type} {R : α → β → Prop} {xs : List α} {ys : List β} (h : Paired R xs ys) {y : β} (hy : y ∈ ys) : ∃ x, R x y := by
  obtain ⟨i, hi⟩ := List.getElem?_of_mem hy
  obtain ⟨x, _, r⟩ := prd_atR h hi
  exact ⟨x, r⟩
theorem HeapR.clo (h : HeapR K ad C H) {i : Nat} {c : Cell} (hc : C[i]? = some c) : Clo C.length c := by
  obtain ⟨a, ha, r⟩ := h.get hc
  have lt : ∀ {v : V} {k : Nat}, RepW K (low ad C H) ad v (.o k) → k < C.length := fun r => by
    obtain ⟨a, h1, _⟩ := r
    rw [← h.len]
    exact (List.getElem?_eq_some_iff.mp h1).1
  intro w hw k e
  subst e
  cases c with
  | lst ws => obtain ⟨vs, _, r⟩ := r; obtain ⟨x, r⟩ := mem_prd r hw; exact lt r
  | tup ws => obtain ⟨vs, _, r⟩ := r; obtain ⟨x, r⟩ := mem_prd r hw; exact lt r
  | dK ws => obtain ⟨vs, _, r⟩ := r; obtain ⟨p, hp, e⟩ := List.mem_map.mp hw; obtain ⟨x, r⟩ := mem_prd r hp; rw [e] at r; exact lt r.2
  | dT ws => obtain ⟨vs, _, r⟩ := r; obtain ⟨p, hp, e⟩ := List.mem_map.mp hw; obtain ⟨x, r⟩ := mem_prd r hp; rw [e] at r; exact lt r.2
  | ins c ws => obtain ⟨dx, vs, _, r⟩ := r; obtain ⟨p, hp, e⟩ := List.mem_map.mp hw; obtain ⟨x, r⟩ := mem_prd r hp; rw [e] at r; exact lt r.2
  | fz => cases hw
theorem RepW.cut {L L' : Hp} {v : V} {w : W} {n : Nat} (h : RepW K L ad v w) (e : Same L L') (hc : ∀ k, w = .o k → k < n) (p : ∀ (k : Nat) a, k < n → ad[k]? = some a → ad0[k]? = some a) : RepW K L' ad0 v w := by
  cases w with
  | d x => exact At.same e x v h
  | o k => obtain ⟨a, h1, h2⟩ := h; exact ⟨a, p k a (hc k rfl) h1, h2⟩
theorem prd_mem {α β : Type} {R S : α → β → Prop} {xs : List α} {ys : List β} (h : Paired R xs ys) (f : ∀ x y, y ∈ ys → R x y → S x y) : Paired S xs ys := by
  induction h with
  | nil => exact .nil
  | cons r t ih => exact .cons (f _ _ (List.mem_cons_self ..) r) (ih fun x y hy => f x y (List.mem_cons_of_mem _ hy))
theorem RepC.cut {L L' : Hp} {a : Addr} {c : Cell} {n : Nat} (h : RepC K L ad H a c) (e : Same L L') (hc : Clo n c) (p : ∀ (k : Nat) a, k < n → ad[k]? = some a → ad0[k]? = some a) : RepC K L' ad0 H a c := by
  have kv : ∀ {κ : Type} {ks : List (κ × V)} {kvs : List (κ × W)}, (∀ w ∈ kvs.map (·.2), ∀ k, w = W.o k → k < n) → Paired (fun p q => p.1 = q.1 ∧ RepW K L ad p.2 q.2) ks kvs → Paired (fun p q => p.1 = q.1 ∧ RepW K L' ad0 p.2 q.2) ks kvs := fun hk h => prd_mem h fun x y hy r => ⟨r.1, r.2.cut e (hk _ (List.mem_map.mpr ⟨y, hy, rfl⟩)) p⟩
  have pl : ∀ {vs : List V} {ws : List W}, (∀ w ∈ ws, ∀ k, w = W.o k → k < n) → RepWs K L ad vs ws → RepWs K L' ad0 vs ws := fun hk h => prd_mem h fun x y hy r => r.cut e (hk _ hy) p
  cases c with
  | lst ws => obtain ⟨vs, h1, h2⟩ := h; exact ⟨vs, h1, pl hc h2⟩
  | tup ws => obtain ⟨vs, h1, h2⟩ := h; exact ⟨vs, h1, pl hc h2⟩
  | dK ws => obtain ⟨vs, h1, h2⟩ := h; exact ⟨vs, h1, kv hc h2⟩
  | dT ws => obtain ⟨vs, h1, h2⟩ := h; exact ⟨vs, h1, kv hc h2⟩
  | ins c ws => obtain ⟨dx, vs, h1, h2⟩ := h; exact ⟨dx, vs, h1, kv hc h2⟩
  | fz => trivial
theorem low_cut (p : ∀ (i : Nat) a, ad0[i]? = some a → ad[i]? = some a) {ex : Cs} (hC : C = C1 ++ ex) : Same (low ad C H) (low ad0 C1 H) := fun b o h => by
  obtain ⟨h1, h2⟩ := low_at h
  rw [low_of (fun z => h1 ?_)]
  · exact h2
  · obtain ⟨i, c, z1, z2, z3⟩ := z
    exact ⟨i, c, p i b z1, by rw [hC, List.getElem?_append_left (List.getElem?_eq_some_iff.mp z2).1]; exact z2, z3⟩
theorem back_pre (h0 : HeapR K ad0 C0 H0) (p : ∀ (i : Nat) a, ad0[i]? = some a → ad[i]? = some a) : ∀ (k : Nat) a, k < C0.length → ad[k]? = some a → ad0[k]? = some a := fun k a hk ha => by
  have : k < ad0.length := by rw [h0.len]; exact hk
  have e := p k _ (List.getElem?_eq_getElem this)
  rw [ha] at e
  cases e
  exact List.getElem?_eq_getElem this
/-- the cells behind the first ones are forgotten -/
theorem HeapR.drop (h0 : HeapR K ad0 C0 H0) (h : HeapR K ad C H) (g : Grw ad0 C0 H0 ad C H) {ex : Cs} (hC : C = C1 ++ ex) (kp : Kp C0 C1) : HeapR K ad0 C1 H ∧ Grw ad0 C0 H0 ad0 C1 H := by
  have lw := low_cut (H := H) g.pre hC
  have bp := back_pre h0 g.pre
  refine ⟨⟨by rw [kp.len]; exact h0.len, h0.nd, fun i a ha => h.tr i a (g.pre i a ha), fun i a c ha hc => ?_⟩, ⟨fun _ _ z => z, g.low.trans lw⟩⟩
  have hc' : C[i]? = some c := by rw [hC, List.getElem?_append_left (List.getElem?_eq_some_iff.mp hc).1]; exact hc
  exact (h.rep i a c (g.pre i a ha) hc').cut lw ((kp.old i c hc).elim h0.clo id) bp
/-- .. but one, a list -/
theorem HeapR.drop1 (h0 : HeapR K ad0 C0 H0) (h : HeapR K ad C H) (g : Grw ad0 C0 H0 ad C H) {ex : Cs} (hC : C = C1 ++ ex) (kp : Kp C0 C1) {i : Nat} {a : Addr} {ds : List Dt} (hi : C0.length ≤ i) (ha : ad[i]? = some a) (hc : C[i]? = some (.lst (ds.map W.d))) :
    At K (low ad0 C1 H) (.ref a) (.lst ds) ∧ HeapR K (ad0 ++ [a]) (C1 ++ [.lst (ds.map W.d)]) H ∧ Grw ad0 C0 H0 (ad0 ++ [a]) (C1 ++ [.lst (ds.map W.d)]) H := by
  obtain ⟨hd, gd⟩ := h0.drop h g hC kp
  have lw := low_cut (H := H) g.pre hC
  obtain ⟨vs, h1, h2⟩ := h.rep i a _ ha hc
  have na : ∀ j, ad0[j]? = some a → False := fun j hj => by
    have e := h.nd i j a ha (g.pre j a hj)
    have := (List.getElem?_eq_some_iff.mp hj).1
    rw [h0.len] at this
    omega
  have nh : ¬ Hid ad0 C1 a := fun ⟨j, c, z1, _, _⟩ => na j z1
  have hid2 : ∀ b, b ≠ a → (Hid (ad0 ++ [a]) (C1 ++ [.lst (ds.map W.d)]) b ↔ Hid ad0 C1 b) := fun b e => by
    constructor
    · rintro ⟨j, x, z1, z2, z3⟩
      by_cases hj : j < ad0.length
      · rw [List.getElem?_append_left hj] at z1
        rw [List.getElem?_append_left (by rw [kp.len, ← h0.len]; exact hj)] at z2
        exact ⟨j, x, z1, z2, z3⟩
      · have : j = ad0.length := by
          have := (List.getElem?_eq_some_iff.mp z1).1
          rw [List.length_append, List.length_singleton] at this
          omega
        subst this
        rw [List.getElem?_concat_length] at z1
        exact absurd (Option.some.inj z1).symm e
    · rintro ⟨j, x, z1, z2, z3⟩
      exact ⟨j, x, by rw [List.getElem?_append_left (List.getElem?_eq_some_iff.mp z1).1]; exact z1, by rw [List.getElem?_append_left (List.getElem?_eq_some_iff.mp z2).1]; exact z2, z3⟩
  have vat : Ats K (low ad C H) vs ds := ats_of h2
  have lw2 : Same (low ad C H) (low (ad0 ++ [a]) (C1 ++ [.lst (ds.map W.d)]) H) := fun b o z => by
    have e : b ≠ a := fun e => by
      subst e
      exact (low_at z).1 ⟨i, _, ha, hc, fun y => by cases y⟩
    have z2 := lw b o z
    obtain ⟨z3, z4⟩ := low_at z2
    rw [low_of (fun y => z3 ((hid2 b e).mp y))]
    exact z4
  refine ⟨?_, ⟨?_, ?_, ?_, ?_⟩, ⟨pre_new, g.low.trans lw2⟩⟩
  · unfold At
    exact ⟨a, vs, rfl, SqL.of (by rw [low_of nh]; exact h1), Ats.same lw _ _ vat⟩
  · rw [List.length_append, List.length_append, kp.len, h0.len]
    rfl
  · intro j k b hj hk
    have cs : ∀ (j : Nat) b, (ad0 ++ [a])[j]? = some b → ad0[j]? = some b ∨ (j = ad0.length ∧ b = a) := fun j b hj => by
      by_cases lt : j < ad0.length
      · rw [List.getElem?_append_left lt] at hj
        exact .inl hj
      · have : j = ad0.length := by
          have := (List.getElem?_eq_some_iff.mp hj).1
          rw [List.length_append, List.length_singleton] at this
          omega
        subst this
        rw [List.getElem?_concat_length] at hj
        exact .inr ⟨rfl, (Option.some.inj hj).symm⟩
    rcases cs j b hj with z1 | ⟨z1, z2⟩ <;> rcases cs k b hk with z3 | ⟨z3, z4⟩
    · exact h0.nd j k b z1 z3
    · rw [z4] at z1
      exact (na j z1).elim
    · rw [z2] at z3
      exact (na k z3).elim
    · rw [z1, z3]
  · intro j b hj
    by_cases lt : j < ad0.length
    · rw [List.getElem?_append_left lt] at hj
      exact h.tr j b (g.pre j b hj)
    · have : j = ad0.length := by
        have := (List.getElem?_eq_some_iff.mp hj).1
        rw [List.length_append, List.length_singleton] at this
        omega
      subst this
      rw [List.getElem?_concat_length] at hj
      cases hj
      exact h.tr i a ha
  · intro j b c hj hx
    by_cases lt : j < ad0.length
    · rw [List.getElem?_append_left lt] at hj
      rw [List.getElem?_append_left (by rw [kp.len, ← h0.len]; exact lt)] at hx
      have hc' : C[j]? = some c := by rw [hC, List.getElem?_append_left (List.getElem?_eq_some_iff.mp hx).1]; exact hx
      exact ((h.rep j b c (g.pre j b hj) hc').cut lw2 ((kp.old j c hx).elim h0.clo id) (back_pre h0 g.pre)).mono rfl (Same.refl _) pre_new
    · have : j = ad0.length := by
        have := (List.getElem?_eq_some_iff.mp hj).1
        rw [List.length_append, List.length_singleton] at this
        omega
      subst this
      rw [List.getElem?_concat_length] at hj
      cases hj
      rw [h0.len, ← kp.len, List.getElem?_concat_length] at hx
      cases hx
      exact ⟨vs, h1, rep_ats (Ats.same lw2 _ _ vat)⟩
/-- what is left at an end: all cells, or the first ones alone -/
def Fin (C0 : Cs) (w : W) (C : Cs) (Q : W → Cs → Prop) : Prop := Q w C ∨
  (∃ x C1 ex, w = .d x ∧ C = C1 ++ ex ∧ Kp C0 C1 ∧ Q (.d x) C1) ∨
  (∃ i ws ds C1 ex, w = .o i ∧ C[i]? = some (.lst ws) ∧ allD ws = some ds ∧ C0.length ≤ i ∧ C = C1 ++ ex ∧ Kp C0 C1 ∧ (Q (.d (.lst ds)) C1 ∨ Q (.o C0.length) (C1 ++ [.lst ws])))
theorem fin_run {v : V} {w : W} {Qd : W → Cs → Prop} {Q : VK} (h0 : HeapR K ad0 C0 H0) (h : HeapR K ad C H) (g : Grw ad0 C0 H0 ad C H) (r : RepW K (low ad C H) ad v w) (f : Fin C0 w C Qd) (k : ContD K ad0 C0 H0 Qd Q) : Q v H := by
  rcases f with q | ⟨x, C1, ex, rfl, hC, kp, q⟩ | ⟨i, ws, ds, C1, ex, rfl, hc, hd, hi, hC, kp, q⟩
  · exact k _ _ _ _ _ q h g r
  · obtain ⟨h1, g1⟩ := h0.drop h g hC kp
    exact k _ _ _ _ _ q h1 g1 (At.same (low_cut g.pre hC) _ _ r)
  · obtain ⟨a, ha, rfl⟩ := r
    have e := allD_of hd
    subst e
    obtain ⟨z1, z2, z3⟩ := h0.drop1 h g hC kp hi ha hc
    obtain ⟨h1, g1⟩ := h0.drop h g hC kp
    rcases q with q | q
    · exact k _ _ _ _ _ q h1 g1 z1
    · exact k _ _ _ _ _ q z2 z3 ⟨a, by rw [← h0.len]; exact List.getElem?_concat_length, rfl⟩
end

/-! ## comprehensions -/
/-- a target that changes the comprehension's own slots alone -/
class SimGC (K : PySem.W.Frag) (t : TG) (vs : List Nat) (d : outParam TDG) : Prop where
  run : ∀ v w ρ C ad σ H Qd Q, HeapR K ad C H → SlotR K (low ad C H) ad σ ρ → RepW K (low ad C H) ad v w → d w ρ C Qd → (∀ ρ' C' σ' H' ad', Qd ρ' C' → HeapR K ad' C' H' → Grw ad C H ad' C' H' → SlotR K (low ad' C' H') ad' σ' ρ' → wipe σ' vs = wipe σ vs → Q σ' H') → t v σ H Q
section
variable {K : PySem.W.Frag}
theorem wipe_get (σ : L2.St) : ∀ (vs : List Nat) (j : Nat), (wipe σ vs)[j]? = if j ∈ vs then (if j < σ.length then some none else none) else σ[j]?
  | [], j => by rw [if_neg (by simp)]; rfl
  | v :: vs, j => by
    show ((wipe σ vs).set v none)[j]? = _
    rw [getE_set, wipe_length, wipe_get σ vs j]
    by_cases e : v = j
    · subst e
      rw [if_pos rfl, if_pos (List.mem_cons_self ..)]
    · rw [if_neg e]
      by_cases h : j ∈ vs
      · rw [if_pos h, if_pos (List.mem_cons_of_mem _ h)]
      · rw [if_neg h, if_neg (fun z => by rcases List.mem_cons.mp z with z | z; exact e z.symm; exact h z)]
theorem wipe_set {σ : L2.St} {vs : List Nat} {i : Nat} {x : Option V} (h : i ∈ vs) : wipe (σ.set i x) vs = wipe σ vs := by
  refine List.ext_getElem? fun j => ?_
  rw [wipe_get, wipe_get, List.length_set, getE_set]
  by_cases hj : j ∈ vs
  · rw [if_pos hj, if_pos hj]
  · rw [if_neg hj, if_neg hj, if_neg (fun e => hj (by rw [← e]; exact h))]
theorem wipe_wipe (σ : L2.St) (vs : List Nat) : wipe (wipe σ vs) vs = wipe σ vs := by
  refine List.ext_getElem? fun j => ?_
  rw [wipe_get, wipe_get, wipe_length]
  by_cases hj : j ∈ vs
  · rw [if_pos hj, if_pos hj]
  · rw [if_neg hj, if_neg hj]
instance {i : Nat} : SimGC K (gName i) [i] (dName i) := ⟨fun v w ρ C ad σ H Qd Q hR sR r h k => k _ C _ H ad h hR .refl (sR.set r i) (wipe_set (List.mem_singleton_self i))⟩
theorem two_of {α : Type} {ws : List α} (h : ws.length = 2) : ∃ a b, ws = [a, b] := by
  match ws, h with
  | [a, b], _ => exact ⟨a, b, rfl⟩
instance {i j : Nat} : SimGC K (gSeq K 2 (gCons (gName i) (gCons (gName j) gNil))) [i, j] (dgTup 2 (dgCons (dName i) (dgCons (dName j) dgNil))) := ⟨fun v w ρ C ad σ H Qd Q hR sR r h k => by
  unfold dgTup at h
  split at h
  · rename_i ws e
    obtain ⟨p, xs, rfl, hr, hx⟩ := row_of' hR r e
    obtain ⟨hl, h⟩ := h
    obtain ⟨w1, w2, rfl⟩ := two_of hl
    have hx : Paired (RepW K (low ad C H) ad) xs [w1, w2] := hx
    cases hx with
    | cons r1 hx =>
      cases hx with
      | cons r2 hx =>
        cases hx
        refine gSeq.row hr rfl ⟨_, _, rfl, _, _, rfl, rfl, ?_⟩
        have s2 := (sR.set r1 i).set r2 j
        have e1 : ∀ a b : Option V, wipe ((σ.set i a).set j b) [i, j] = wipe σ [i, j] := fun a b => by
          rw [wipe_set (List.mem_cons_of_mem _ (List.mem_singleton_self j)), wipe_set (List.mem_cons_self ..)]
        exact k _ C _ H ad h.2 hR .refl s2 (e1 _ _)
  · exact h.elim⟩
def dYes : TDT := fun _ C Q => Q true C
instance : SimT K tYes dYes := ⟨fun ρ C ad σ H Qd Q hR sR h k => k true C H ad h hR .refl⟩
def DLc (J : ItD) (g : TDG) (t : TDT) (e : TD) (ρ0 : Ws) (C : Cs) (j : Nat) (Q : W → Cs → Prop) : Prop := ∃ I : Nat → Nat → Cs → Prop, (∃ m, I 0 m (C ++ [.lst []])) ∧ ∀ i m C, I i m C → (J i C none ∧ Q (.o j) C) ∨ ∃ w, J i C (some w) ∧
  ∃ N : Cs → Prop, (∀ C', N C' → ∃ m', m' < m ∧ I (i + 1) m' C') ∧ g w ρ0 C fun ρ2 C2 => t ρ2 C2 fun b C3 => if b = true then e ρ2 C3 fun y C4 => ∃ acc, C4[j]? = some (.lst acc) ∧ acc.length < 16777216 ∧ N (C4.set j (.lst (acc ++ [y]))) else N C3
def dLc (wi : TDI) (g : TDG) (t : TDT) (e : TD) (vs : List Nat) : TD := fun ρ C Q => wi ρ C fun J C1 => DLc J g t e (wipeW ρ vs) C1 C1.length fun w C' => Fin C w C' Q
instance {wi : TI} {g : TG} {t : TT} {e : TE} {vs : List Nat} {di : TDI} {dg : TDG} {dt : TDT} {de : TD} [a : SimI K wi di] [b : SimGC K g vs dg] [c : SimT K t dt] [f : SimE K e de] : SimE K (tLc wi g t e vs) (dLc di dg dt de vs) := ⟨fun ρ C ad σ H Qd Q hR sR h k => a.run ρ C ad σ H _ _ hR sR h fun J JD C1 H1 ad1 q1 hR1 g1 lw D nD => by
  obtain ⟨I, ⟨m, h0⟩, hs⟩ := q1
  obtain ⟨hRn, gn⟩ := hR1.new (a := D) (o := .lst []) (c := .lst []) nD (fun z => by cases z) ⟨[], upd_same, .nil⟩
  have jat : (ad1 ++ [D])[C1.length]? = some D := by rw [← hR1.len]; exact List.getElem?_concat_length
  refine ⟨fun i m H' => ∃ C' ad', I i m C' ∧ HeapR K ad' C' H' ∧ Grw (ad1 ++ [D]) (C1 ++ [.lst []]) (upd H1 D (.lst [])) ad' C' H', ⟨m, _, _, h0, hRn, .refl⟩, ?_⟩
  rintro i m H' ⟨C2, ad2, i2, hR2, g2⟩
  have jat2 := g2.pre _ _ jat
  have g12 := gn.trans g2
  rcases hs i m C2 i2 with ⟨st, q⟩ | ⟨w, hw, N, n1, n2⟩
  · exact .inl ⟨lw.stop ad2 C2 H' i hR2 g12 st, fin_run (w := .o C1.length) hR hR2 (g1.trans g12) ⟨D, jat2, rfl⟩ q k⟩
  · refine .inr ⟨lw.go ad2 C2 H' i w hR2 g12 hw, fun H3 => ∃ C' ad', N C' ∧ HeapR K ad' C' H3 ∧ Grw (ad1 ++ [D]) (C1 ++ [.lst []]) (upd H1 D (.lst [])) ad' C' H3, ?_, ?_⟩
    · rintro H3 ⟨C3, ad3, q3, hR3, g3⟩
      obtain ⟨m', hm, i3⟩ := n1 C3 q3
      exact ⟨m', hm, C3, ad3, i3, hR3, g3⟩
    · intro x H3 y
      obtain ⟨hR3, g3, rx⟩ := lw.yld ad2 C2 H' i w x H3 hR2 g12 hw y
      have s3 := ((sR.grw g1).grw (g12.trans g3)).wipe vs
      refine b.run x w _ C2 ad2 _ H3 _ _ hR3 s3 rx n2 fun ρ4 C4 σ4 H4 ad4 q4 hR4 g4 s4 ws => ⟨by rw [ws, wipe_wipe], ?_⟩
      refine c.run ρ4 C4 ad4 σ4 H4 _ _ hR4 s4 q4 fun z C5 H5 ad5 q5 hR5 g5 => ?_
      have g25 := g2.trans (g3.trans (g4.trans g5))
      cases z with
      | false => exact ⟨C5, ad5, q5, hR5, g25⟩
      | true =>
        refine f.run ρ4 C5 ad5 σ4 H5 _ _ hR5 (s4.grw g5) q5 fun y C6 v H6 ad6 q6 hR6 g6 r6 => ?_
        obtain ⟨acc, hc, hl, hn⟩ := q6
        have g26 := g25.trans g6
        have jat6 := g26.pre _ _ jat
        obtain ⟨vs6, hv6, rv6⟩ := hR6.rep _ _ _ jat6 hc
        obtain ⟨hR7, g7⟩ := hR6.set (o := .lst (vs6 ++ [v])) (c := .lst (acc ++ [y])) jat6 hc (fun z => by cases z) (fun z => by cases z) ⟨_, upd_same, prd_snoc rv6 r6⟩
        exact ⟨vs6, hv6, by rw [prd_len rv6, line_is]; exact hl, _, ad6, hn, hR7, g26.trans g7⟩⟩
/-- over n things, each told by f (or left out), with nothing else done -/
theorem DLc.pureF {J : ItD} {g : TDG} {t : TDT} {e : TD} {ρ0 : Ws} {C : Cs} {Q : W → Cs → Prop} (n : Nat) (it : Nat → W) (f : Nat → Option Dt) (hn : n ≤ 16777216) (hJ : ∀ i C, J i C (if i < n then some (it i) else none))
    (hs : ∀ i acc (R : W → Cs → Prop) (S : Cs → Prop), i < n → (match f i with | some x => R (.d x) (C ++ [.lst acc]) | none => S (C ++ [.lst acc])) → g (it i) ρ0 (C ++ [.lst acc]) fun ρ2 C2 => t ρ2 C2 fun b C3 => if b = true then e ρ2 C3 R else S C3) (q : Q (.d (.lst ((List.range n).filterMap f))) C) :
    DLc J g t e ρ0 C C.length (fun w C' => Fin C w C' Q) := by
  have last : ∀ (c : Cell), (C ++ [c])[C.length]? = some c := fun c => List.getElem?_concat_length
  have put : ∀ (c x : Cell), (C ++ [c]).set C.length x = C ++ [x] := fun c x => by rw [List.set_append_right _ _ (Nat.le_refl _), Nat.sub_self]; rfl
  refine ⟨fun i m C' => m = n - i ∧ i ≤ n ∧ C' = C ++ [.lst (((List.range i).filterMap f).map W.d)], ⟨n, rfl, Nat.zero_le _, rfl⟩, ?_⟩
  rintro i m C' ⟨rfl, hi, rfl⟩
  have hj := hJ i (C ++ [.lst (((List.range i).filterMap f).map W.d)])
  by_cases lt : i < n
  · rw [if_pos lt] at hj
    have next : List.range (i + 1) = List.range i ++ [i] := List.range_succ
    refine .inr ⟨it i, hj, fun C' => C' = C ++ [.lst (((List.range (i + 1)).filterMap f).map W.d)], fun C' e => ⟨n - (i + 1), by omega, rfl, lt, e⟩, hs i _ _ _ lt ?_⟩
    cases e : f i with
    | some x =>
      refine ⟨_, last _, ?_, ?_⟩
      · rw [List.length_map]
        have := List.length_filterMap_le f (List.range i)
        rw [List.length_range] at this
        omega
      · rw [put, next, List.filterMap_append, List.map_append]
        simp only [List.filterMap_cons, e, List.filterMap_nil, List.map_cons, List.map_nil]
    | none =>
      show _ = C ++ [Cell.lst (((List.range (i + 1)).filterMap f).map W.d)]
      rw [next, List.filterMap_append]
      simp only [List.filterMap_cons, e, List.filterMap_nil, List.append_nil]
  · rw [if_neg lt] at hj
    have en : i = n := by omega
    subst en
    exact .inl ⟨hj, .inr (.inr ⟨_, _, _, C, _, rfl, last _, allD_map _, Nat.le_refl _, rfl, .refl C, .inl q⟩)⟩
theorem DLc.pure {J : ItD} {g : TDG} {t : TDT} {e : TD} {ρ0 : Ws} {C : Cs} {Q : W → Cs → Prop} (n : Nat) (it : Nat → W) (f : Nat → Dt) (hn : n ≤ 16777216) (hJ : ∀ i C, J i C (if i < n then some (it i) else none))
    (hs : ∀ i acc (R : W → Cs → Prop) (S : Cs → Prop), i < n → R (.d (f i)) (C ++ [.lst acc]) → g (it i) ρ0 (C ++ [.lst acc]) fun ρ2 C2 => t ρ2 C2 fun b C3 => if b = true then e ρ2 C3 R else S C3) (q : Q (.d (.lst ((List.range n).map f))) C) :
    DLc J g t e ρ0 C C.length (fun w C' => Fin C w C' Q) :=
  DLc.pureF n it (fun i => some (f i)) hn hJ (fun i acc R S lt h => hs i acc R S lt h) (by rw [show (fun i => some (f i)) = some ∘ f from rfl, ← List.filterMap_map, List.filterMap_some]; exact q)
theorem itRng_if {lo : Int} {n : Nat} (i : Nat) (C : Cs) : itRng lo n i C (if i < n then some (.d (.int (lo + i))) else none) := rfl
theorem itList_if {ds : List Dt} (i : Nat) (C : Cs) : itList (ds.map W.d) i C (if i < ds.length then some (.d (ds.getD i .non)) else none) := by
  show _ = (ds.map W.d)[i]?
  rw [List.getElem?_map]
  by_cases h : i < ds.length
  · rw [if_pos h, List.getD_eq_getElem?_getD, List.getElem?_eq_getElem h]
    rfl
  · rw [if_neg h, List.getElem?_eq_none_iff.mpr (by omega)]
    rfl
theorem range_getD {ds : List Dt} {β : Type} (f : Dt → β) : (List.range ds.length).map (fun i => f (ds.getD i .non)) = ds.map f := by
  refine List.ext_getElem? fun i => ?_
  rw [List.getElem?_map, List.getElem?_map]
  by_cases h : i < ds.length
  · rw [List.getElem?_range h, List.getElem?_eq_getElem h]
    show some (f (ds.getD i .non)) = some (f ds[i])
    rw [List.getD_eq_getElem?_getD, List.getElem?_eq_getElem h]
    rfl
  · rw [List.getElem?_eq_none_iff.mpr (by rw [List.length_range]; omega), List.getElem?_eq_none_iff.mpr (by omega)]
    rfl
/-- .. over a row's things -/
theorem DLc.row {ds : List Dt} {g : TDG} {t : TDT} {e : TD} {ρ0 : Ws} {C : Cs} {Q : W → Cs → Prop} (f : Dt → Dt) (hn : ds.length ≤ 16777216)
    (hs : ∀ x acc (R : W → Cs → Prop) (S : Cs → Prop), x ∈ ds → R (.d (f x)) (C ++ [.lst acc]) → g (.d x) ρ0 (C ++ [.lst acc]) fun ρ2 C2 => t ρ2 C2 fun b C3 => if b = true then e ρ2 C3 R else S C3) (q : Q (.d (.lst (ds.map f))) C) :
    DLc (itList (ds.map W.d)) g t e ρ0 C C.length (fun w C' => Fin C w C' Q) := by
  refine DLc.pure ds.length (fun i => .d (ds.getD i .non)) (fun i => f (ds.getD i .non)) hn itList_if (fun i acc R S lt h => ?_) (by rw [range_getD f]; exact q)
  refine hs (ds.getD i .non) acc R S ?_ h
  rw [List.getD_eq_getElem?_getD, List.getElem?_eq_getElem lt]
  exact List.getElem_mem lt

/-! ## defs -/
def ret (C0 : Cs) (Q : W → Cs → Prop) : W → Cs → Prop := fun w C => Fin C0 w C Q
theorem ret.same {C0 C : Cs} {Q : W → Cs → Prop} {w : W} (q : Q w C) : ret C0 Q w C := .inl q
/-- a thing is told, the cells are as at the start, and some more -/
theorem ret.thing {C : Cs} {Q : W → Cs → Prop} {x : Dt} {ex : Cs} (q : Q (.d x) C) : ret C Q (.d x) (C ++ ex) := .inr (.inl ⟨x, C, ex, rfl, rfl, .refl C, q⟩)
/-- a list that was made here is told as a thing -/
theorem ret.made {C : Cs} {Q : W → Cs → Prop} {i : Nat} {ds : List Dt} {ex : Cs} (hi : C.length ≤ i) (hc : (C ++ ex)[i]? = some (.lst (ds.map W.d))) (q : Q (.d (.lst ds)) C) : ret C Q (.o i) (C ++ ex) :=
  .inr (.inr ⟨i, _, ds, C, ex, rfl, hc, allD_map ds, hi, rfl, .refl C, .inl q⟩)
theorem ret.own {C : Cs} {Q : W → Cs → Prop} {i : Nat} {ds : List Dt} {ex : Cs} (hi : C.length ≤ i) (hc : (C ++ ex)[i]? = some (.lst (ds.map W.d))) (q : Q (.o C.length) (C ++ [.lst (ds.map W.d)])) : ret C Q (.o i) (C ++ ex) :=
  .inr (.inr ⟨i, _, ds, C, ex, rfl, hc, allD_map ds, hi, rfl, .refl C, .inr q⟩)
def startD (N : List Str) (ws : List W) : Ws := ws.map some ++ List.replicate (N.length - ws.length) none
end
end BK

namespace BK
open PySem PySem.Spec PyProof.Rows L2
section
variable {P : Program} {w : World} {K : PySem.W.Frag} {mg : Str → Option Value} {base : Heap}
theorem start_slots {L : Hp} {ad : List Addr} {N : List Str} {vs : List V} {ws : List W} (r : RepWs K L ad vs ws) : SlotR K L ad (L2.start N vs) (startD N ws) := by
  have hl := prd_len r
  refine ⟨by unfold L2.start startD; simp only [List.length_append, List.length_map, List.length_replicate, hl], fun i x hx => ?_⟩
  unfold startD at hx
  unfold L2.start
  by_cases h : i < ws.length
  · rw [List.getElem?_append_left (by rw [List.length_map]; exact h), List.getElem?_map] at hx
    cases e : ws[i]? with
    | none => rw [e] at hx; cases hx
    | some y =>
      rw [e] at hx
      cases hx
      obtain ⟨v, hv, rv⟩ := prd_atR r e
      exact ⟨v, by rw [List.getElem?_append_left (by rw [List.length_map, hl]; exact h), List.getElem?_map, hv]; rfl, rv⟩
  · rw [List.getElem?_append_right (by rw [List.length_map]; omega), List.getElem?_replicate] at hx
    split at hx <;> cases hx
theorem ends_ret {ad : List Addr} {C : Cs} {H : Hp} {Pd : W → Cs → Prop} {Q : VK} (hR : HeapR K ad C H) (k : ContD K ad C H Pd Q) : EndsR K ad C H { nx := fun _ C' => ret C Pd (.d .non) C', rt := ret C Pd } { nx := fun _ H' => Q .non H', rt := Q } :=
  ⟨fun ρ' C' σ' H' ad' q hR' g s => fin_run (w := .d .non) hR hR' g rw_non q k, fun w C' v H' ad' q hR' g r => fin_run hR hR' g r q k, fun _ _ _ _ _ q => q.elim, fun _ _ _ _ _ q => q.elim⟩
/-- a def over worths -/
theorem okD {x ql : Str} {st : Stmt} {f : Addr} {fd : FuncData} {N ps : List Str} {k : Nat} {sp : SpD} (F : Fun K x ql st f fd) (S : FnScope N ps (defScope st)) (ln : ∀ ws C Q X, sp ws C Q X → ws.length = ps.length)
    (hb : ∀ (cv : Value) (A : Around) (out : List Env) (s : Shared) (H : Hp) (E : XK), Room k (A.deeper (envOfC ql (defScope st) s.heap.objs.size f cv)) →
      ∃ t, PSs (cxOf CX0 P w K mg base N ql (defScope st) f cv A out s H E).nox (defBody st) t ∧ ∃ d, SimS K t d ∧ ∀ ws C Q X, sp ws C Q X → d { nx := fun _ C' => ret C Q (.d .non) C', rt := ret C Q } (startD N ws) C) : FnOk P w K mg base CX0 (k + 1) f fd ps (lft K sp) := by
  refine F.ok S (fun vs H Q E h => ?_) (fun cv A out s H vs Q E hr h => ?_)
  · obtain ⟨ws, C, ad, Pd, Xd, hR, rv, h, _⟩ := h
    exact (prd_len rv).trans (ln _ _ _ _ h)
  · obtain ⟨ws, C, ad, Pd, Xd, hR, rv, h, kd, kx⟩ := h
    obtain ⟨t, ht, d, sim, hd⟩ := hb cv A out s H E hr
    exact ⟨t, ht, sim.run _ C ad _ H _ _ hR (start_slots rv) (hd _ _ _ _ h) (ends_ret hR kd)⟩
theorem okDG {x ql : Str} {st : Stmt} {f : Addr} {fd : FuncData} {N ps : List Str} {k : Nat} {sp : SpD} (F : Fun K x ql st f fd) (S : FnScope N ps (defScope st)) (ln : ∀ ws C Q X, sp ws C Q X → ws.length = ps.length)
    (hb : ∀ (cv : Value) (A : Around) (out : List Env) (s : Shared) (H : Hp) (E : XK), A.guards = some [] → Room k (A.deeper (envOfC ql (defScope st) s.heap.objs.size f cv)) →
      ∃ t, PSs (cxOf CX0 P w K mg base N ql (defScope st) f cv A out s H E).nox (defBody st) t ∧ ∃ d, SimS K t d ∧ ∀ ws C Q X, sp ws C Q X → d { nx := fun _ C' => ret C Q (.d .non) C', rt := ret C Q } (startD N ws) C) : FnG P w K mg base CX0 (k + 1) f fd ps (lft K sp) := by
  refine funG F S (fun vs H Q E h => ?_) (fun cv A out s H vs Q E hg hr h => ?_)
  · obtain ⟨ws, C, ad, Pd, Xd, hR, rv, h, _⟩ := h
    exact (prd_len rv).trans (ln _ _ _ _ h)
  · obtain ⟨ws, C, ad, Pd, Xd, hR, rv, h, kd, kx⟩ := h
    obtain ⟨t, ht, d, sim, hd⟩ := hb cv A out s H E hg hr
    exact ⟨t, ht, sim.run _ C ad _ H _ _ hR (start_slots rv) (hd _ _ _ _ h) (ends_ret hR kd)⟩
end
/-- a law's promise, from one over worths: the script as a list of numbers -/
abbrev scriptD (ns : List Int) : Dt := .lst (ns.map Dt.int)
theorem script_at {K : PySem.W.Frag} {H : Hp} {a : Addr} : ∀ {ns : List Int}, SqL K H a (ns.map V.int) → At K H (.ref a) (scriptD ns) := fun {ns} h => by
  unfold scriptD At
  refine ⟨a, _, rfl, h, ?_⟩
  clear h
  induction ns with
  | nil => unfold Ats; rfl
  | cons n ns ih => rw [List.map_cons, List.map_cons]; unfold Ats; exact ⟨_, _, rfl, by unfold At; rfl, ih⟩
def spLawD (n : Nat) : SpD := fun ws C Q _ => ∃ ns : List Int, ws = [.d (scriptD ns)] ∧ ns.length ≤ n ∧ C = [] ∧ ∀ C', Q (.d (.bl true)) C'
theorem heap0 {K : PySem.W.Frag} {H : Hp} : HeapR K [] [] H := ⟨rfl, (fun _ _ _ h => nomatch h), (fun _ _ h => nomatch h), (fun _ _ _ h => nomatch h)⟩
theorem low0 {H : Hp} : low [] [] H = H := by
  funext b
  refine low_of ?_
  rintro ⟨i, c, h, _⟩
  cases h
theorem law_lft {K : PySem.W.Frag} {n : Nat} {vs : List V} {H : Hp} {Q : VK} {E : XK} {a : Addr} {ns : List Int} (hv : vs = [.ref a]) (h : SqL K H a (ns.map V.int)) (hn : ns.length ≤ n) (q : ∀ H', Q (.bl true) H') : lft K (spLawD n) vs H Q E := by
  subst hv
  refine ⟨[.d (scriptD ns)], [], [], fun w _ => w = .d (.bl true), X0, heap0, .cons (show At K _ _ _ by rw [low0]; exact script_at h) .nil, ⟨ns, rfl, hn, rfl, fun C' => rfl⟩, ?_, contX0⟩
  intro w C' v H' ad' e hR g r
  subst e
  rw [bl_at r]
  exact q H'
/-! ## an elder promise met over worths -/
theorem At.rep {K : PySem.W.Frag} {L : Hp} {ad : List Addr} {v : V} {x : Dt} (h : At K L v x) : RepW K L ad v (.d x) := h
theorem cont_same {K : PySem.W.Frag} {ad : List Addr} {C : Cs} {H H' : Hp} {Qd : W → Cs → Prop} {Q : VK} (hR : HeapR K ad C H) (k : ContD K ad C H Qd Q) (e : Same H H') {w : W} {v : V} (q : Qd w C) (r : RepW K (low ad C H') ad v w) : Q v H' := k w C v H' ad q (hR.same e) (grw_same e) r
/-! ## what reads as a thing -/
mutual
def rds (C : Cs) : W → Dt → Prop
  | w, .lst ds => w = .d (.lst ds) ∨ ∃ i ws, w = .o i ∧ C[i]? = some (.lst ws) ∧ rdss C ws ds
  | w, .tup ds => w = .d (.tup ds) ∨ ∃ i ws, w = .o i ∧ C[i]? = some (.tup ws) ∧ rdss C ws ds
  | w, .non => w = .d .non
  | w, .bl b => w = .d (.bl b)
  | w, .int i => w = .d (.int i)
  | w, .str z => w = .d (.str z)
  | w, .dic => w = .d .dic
def rdss (C : Cs) : List W → List Dt → Prop
  | ws, [] => ws = []
  | ws, d :: ds => ∃ w us, ws = w :: us ∧ rds C w d ∧ rdss C us ds
end
theorem rds_d {C : Cs} {x : Dt} : rds C (.d x) x := by
  cases x with
  | lst ds => unfold rds; exact .inl rfl
  | tup ds => unfold rds; exact .inl rfl
  | _ => unfold rds; rfl
theorem rdss_d {C : Cs} : ∀ {ds : List Dt}, rdss C (ds.map W.d) ds
  | [] => by unfold rdss; rfl
  | d :: ds => by unfold rdss; exact ⟨_, _, rfl, rds_d, rdss_d⟩
theorem rds_own {C : Cs} {i : Nat} {ds : List Dt} (h : C[i]? = some (.lst (ds.map W.d))) : rds C (.o i) (.lst ds) := by
  unfold rds
  exact .inr ⟨i, _, rfl, h, rdss_d⟩
section
variable {K : PySem.W.Frag} {H : Hp} {ad : List Addr} {C : Cs}
mutual
theorem rds_at (hR : HeapR K ad C H) : ∀ (x : Dt) (w : W) (v : V), RepW K (low ad C H) ad v w → rds C w x → At K H v x
  | .lst ds, w, v, r, h => by
    unfold rds at h
    rcases h with rfl | ⟨i, ws, rfl, hc, h⟩
    · exact At.same (low_same _ _ _) _ _ r
    · obtain ⟨a, ha, rfl⟩ := r
      obtain ⟨vs, h1, h2⟩ := hR.rep i a _ ha hc
      unfold At
      exact ⟨a, vs, rfl, SqL.of h1, rdss_at hR ds ws vs h2 h⟩
  | .tup ds, w, v, r, h => by
    unfold rds at h
    rcases h with rfl | ⟨i, ws, rfl, hc, h⟩
    · exact At.same (low_same _ _ _) _ _ r
    · obtain ⟨a, ha, rfl⟩ := r
      obtain ⟨vs, h1, h2⟩ := hR.rep i a _ ha hc
      unfold At
      exact ⟨a, vs, rfl, SqT.of h1, rdss_at hR ds ws vs h2 h⟩
  | .non, w, v, r, h => by unfold rds at h; subst h; exact r.dAt
  | .bl b, w, v, r, h => by unfold rds at h; subst h; exact r.dAt
  | .int i, w, v, r, h => by unfold rds at h; subst h; exact r.dAt
  | .str z, w, v, r, h => by unfold rds at h; subst h; exact r.dAt
  | .dic, w, v, r, h => by unfold rds at h; subst h; exact r.dAt
theorem rdss_at (hR : HeapR K ad C H) : ∀ (ds : List Dt) (ws : List W) (vs : List V), RepWs K (low ad C H) ad vs ws → rdss C ws ds → Ats K H vs ds
  | [], ws, vs, r, h => by unfold rdss at h; subst h; cases r; unfold Ats; rfl
  | d :: ds, ws, vs, r, h => by
    unfold rdss at h
    obtain ⟨w, us, rfl, h1, h2⟩ := h
    cases r with
    | cons r1 r2 => unfold Ats; exact ⟨_, _, rfl, rds_at hR d w _ r1 h1, rdss_at hR ds us _ r2 h2⟩
end
end
end BK

namespace BK
open PySem PySem.Spec PyProof.Rows L2

/-! ## rules by values, over worths -/
section
variable {K : PySem.W.Frag}
abbrev RD2 := W → W → Cs → (W → Cs → Prop) → Prop
def dI0 (f : Int → Int → Int) : RD2 := fun x y C Q => match x, y with
  | .d (.int i), .d (.int j) => Q (.d (.int (f i j))) C
  | _, _ => False
def dB0 (f : Int → Int → Bool) : RD2 := fun x y C Q => match x, y with
  | .d (.int i), .d (.int j) => Q (.d (.bl (f i j))) C
  | _, _ => False
def dIc (c : Int → Int → Prop) (f : Int → Int → Int) : RD2 := fun x y C Q => match x, y with
  | .d (.int i), .d (.int j) => c i j ∧ Q (.d (.int (f i j))) C
  | _, _ => False
instance {f : Int → Int → Int} : Low2 K (rI0 fun i j => .int (f i j)) (dI0 f) := ⟨fun x y C ad v u H Qd Q hR rx ry h k => by
  unfold dI0 at h
  split at h
  · exact ⟨_, _, int_at rx, int_at ry, k _ C _ H ad h hR .refl rw_int⟩
  · exact h.elim⟩
instance {f : Int → Int → Bool} : Low2 K (rI0 fun i j => .bl (f i j)) (dB0 f) := ⟨fun x y C ad v u H Qd Q hR rx ry h k => by
  unfold dB0 at h
  split at h
  · exact ⟨_, _, int_at rx, int_at ry, k _ C _ H ad h hR .refl rw_bl⟩
  · exact h.elim⟩
instance {c : Int → Int → Prop} {f : Int → Int → Int} : Low2 K (rI c fun i j => .int (f i j)) (dIc c f) := ⟨fun x y C ad v u H Qd Q hR rx ry h k => by
  unfold dIc at h
  split at h
  · exact ⟨_, _, int_at rx, int_at ry, h.1, k _ C _ H ad h.2 hR .refl rw_int⟩
  · exact h.elim⟩
def dU (f : Int → Int) : W → Cs → (W → Cs → Prop) → Prop := fun x C Q => match x with
  | .d (.int i) => Q (.d (.int (f i))) C
  | _ => False
instance {f : Int → Int} : Low1 K (rU fun i => .int (f i)) (dU f) := ⟨fun x C ad v H Qd Q hR rx h k => by
  unfold dU at h
  split at h
  · exact ⟨_, int_at rx, k _ C _ H ad h hR .refl rw_int⟩
  · exact h.elim⟩
/-- scalars compared -/
def sEq : W → W → Option Bool
  | .d .non, .d .non => some true
  | .d .non, .d (.int _) => some false
  | .d (.int _), .d .non => some false
  | .d .non, .d (.bl _) => some false
  | .d (.bl _), .d .non => some false
  | .d .non, .d (.str _) => some false
  | .d (.str _), .d .non => some false
  | .d (.int i), .d (.int j) => some (decide (i = j))
  | .d (.bl i), .d (.bl j) => some (decide (i = j))
  | .d (.str i), .d (.str j) => some (decide (i = j))
  | .d (.int _), .d (.str _) => some false
  | .d (.str _), .d (.int _) => some false
  | .d (.bl _), .d (.str _) => some false
  | .d (.str _), .d (.bl _) => some false
  | _, _ => none
def dEq : RD2 := fun x y C Q => match sEq x y with
  | some b => Q (.d (.bl b)) C
  | none => False
def dNe : RD2 := fun x y C Q => match sEq x y with
  | some b => Q (.d (.bl (!b))) C
  | none => False
theorem sEq_run {L : Hp} {ad : List Addr} {v u : V} {x y : W} {b : Bool} (rx : RepW K L ad v x) (ry : RepW K L ad u y) (h : sEq x y = some b) : scal v u = true ∧ decide (v = u) = b := by
  unfold sEq at h
  split at h
  all_goals first | (cases h; done) | skip
  · cases h; rw [non_at rx, non_at ry]; exact ⟨rfl, by simp⟩
  · cases h; rw [non_at rx, int_at ry]; exact ⟨rfl, by simp⟩
  · cases h; rw [int_at rx, non_at ry]; exact ⟨rfl, by simp⟩
  · cases h; rw [non_at rx, bl_at ry]; exact ⟨rfl, by simp⟩
  · cases h; rw [bl_at rx, non_at ry]; exact ⟨rfl, by simp⟩
  · cases h; rw [non_at rx, (str_at ry).1]; exact ⟨rfl, by simp⟩
  · cases h; rw [(str_at rx).1, non_at ry]; exact ⟨rfl, by simp⟩
  · cases h; rw [int_at rx, int_at ry]; exact ⟨rfl, by simp⟩
  · cases h; rw [bl_at rx, bl_at ry]; exact ⟨rfl, by simp⟩
  · cases h
    rw [(str_at rx).1, (str_at ry).1]
    refine ⟨rfl, ?_⟩
    rename_i i j
    by_cases e : i = j
    · subst e; simp
    · rw [decide_eq_false e]
      exact decide_eq_false fun z => e (tx_inj (V.str.inj z))
  · cases h; rw [int_at rx, (str_at ry).1]; exact ⟨rfl, by simp⟩
  · cases h; rw [(str_at rx).1, int_at ry]; exact ⟨rfl, by simp⟩
  · cases h; rw [bl_at rx, (str_at ry).1]; exact ⟨rfl, by simp⟩
  · cases h; rw [(str_at rx).1, bl_at ry]; exact ⟨rfl, by simp⟩
instance : Low2 K rEq dEq := ⟨fun x y C ad v u H Qd Q hR rx ry h k => by
  unfold dEq at h
  split at h
  · rename_i b e
    obtain ⟨h1, h2⟩ := sEq_run rx ry e
    exact ⟨h1, by rw [h2]; exact k _ C _ H ad h hR .refl rw_bl⟩
  · exact h.elim⟩
instance : Low2 K rNe dNe := ⟨fun x y C ad v u H Qd Q hR rx ry h k => by
  unfold dNe at h
  split at h
  · rename_i b e
    obtain ⟨h1, h2⟩ := sEq_run rx ry e
    exact ⟨h1, by rw [h2]; exact k _ C _ H ad h hR .refl rw_bl⟩
  · exact h.elim⟩
/-- is None -/
def rIsNon : R2 := fun x y H Q => y = .non ∧ Q (.bl (decide (x = .non))) H
def rNotNon : R2 := fun x y H Q => y = .non ∧ Q (.bl (!decide (x = .non))) H
theorem q_isN {X : Cx} : OpR X (compareOp .Is) rIsNon := op_isN
theorem q_notN {X : Cx} : OpR X (compareOp .IsNot) rNotNon := op_notN
def isNon : W → Bool
  | .d .non => true
  | _ => false
theorem isNon_run {L : Hp} {ad : List Addr} {v : V} {x : W} (r : RepW K L ad v x) : decide (v = .non) = isNon x := by
  cases x with
  | o i => obtain ⟨a, _, rfl⟩ := r; rfl
  | d x =>
    have r : At K L v x := r
    cases x with
    | non => unfold At at r; rw [r]; rfl
    | bl b => unfold At at r; rw [r]; rfl
    | int b => unfold At at r; rw [r]; rfl
    | str b => unfold At at r; rw [r.1]; rfl
    | lst b => unfold At at r; obtain ⟨a, xs, rfl, _⟩ := r; rfl
    | tup b => unfold At at r; obtain ⟨a, xs, rfl, _⟩ := r; rfl
    | dic => unfold At at r; obtain ⟨a, rfl, _⟩ := r; rfl
def dIsNon : RD2 := fun x y C Q => match y with
  | .d .non => Q (.d (.bl (isNon x))) C
  | _ => False
def dNotNon : RD2 := fun x y C Q => match y with
  | .d .non => Q (.d (.bl (!isNon x))) C
  | _ => False
instance : Low2 K rIsNon dIsNon := ⟨fun x y C ad v u H Qd Q hR rx ry h k => by
  unfold dIsNon at h
  split at h
  · exact ⟨non_at ry, by rw [isNon_run rx]; exact k _ C _ H ad h hR .refl rw_bl⟩
  · exact h.elim⟩
instance : Low2 K rNotNon dNotNon := ⟨fun x y C ad v u H Qd Q hR rx ry h k => by
  unfold dNotNon at h
  split at h
  · exact ⟨non_at ry, by rw [isNon_run rx]; exact k _ C _ H ad h hR .refl rw_bl⟩
  · exact h.elim⟩
/-- x[i] -/
def ixW (C : Cs) : W → W → Option W
  | .d (.str z), .d (.int i) => (atI z i).map fun c => .d (.str [c])
  | .d (.lst ds), .d (.int i) => (atI ds i).map W.d
  | .d (.tup ds), .d (.int i) => (atI ds i).map W.d
  | .o k, .d (.int i) => match rowW C (.o k) with
    | some ws => atI ws i
    | none => none
  | _, _ => none
def dIx : RD2 := fun x y C Q => match ixW C x y with
  | some w => Q w C
  | none => False
theorem atI_prd {α β : Type} {R : α → β → Prop} {xs : List α} {ys : List β} (h : Paired R xs ys) {i : Int} {y : β} (e : atI ys i = some y) : ∃ x, atI xs i = some x ∧ R x y := by
  unfold atI at e ⊢
  rw [prd_len h]
  cases z : ixN ys.length i with
  | none => rw [z] at e; cases e
  | some j =>
    rw [z] at e
    exact prd_atR h e
theorem ats_prd {L : Hp} : ∀ {ds : List Dt} {vs : List V}, Ats K L vs ds → Paired (At K L) vs ds
  | [], vs, h => by unfold Ats at h; subst h; exact .nil
  | d :: ds, vs, h => by unfold Ats at h; obtain ⟨v, us, rfl, h1, h2⟩ := h; exact .cons h1 (ats_prd h2)
instance : Low2 K (rIx K) dIx := ⟨fun x y C ad v u H Qd Q hR rx ry h k => by
  unfold dIx at h
  split at h
  · rename_i w e
    unfold ixW at e
    split at e
    · rename_i z i
      rw [int_at ry]
      cases e1 : atI z i with
      | none => rw [e1] at e; cases e
      | some c =>
        rw [e1] at e
        cases e
        obtain ⟨rfl, hl⟩ := str_at rx
        exact ix_tx hl e1 (k _ C _ H ad h hR .refl (rw_str (z := [c]) (by show 1 ≤ 1000000; decide)))
    · rename_i ds i
      rw [int_at ry]
      cases e1 : atI ds i with
      | none => rw [e1] at e; cases e
      | some d =>
        rw [e1] at e
        cases e
        have rx : At K (low ad C H) v (.lst ds) := rx
        unfold At at rx
        obtain ⟨a, xs, rfl, h1, h2⟩ := rx
        obtain ⟨z, hz, rz⟩ := atI_prd (ats_prd h2) e1
        exact ix_row (.inl ((low_same _ _ _).seq h1)) hz (k _ C _ H ad h hR .refl rz)
    · rename_i ds i
      rw [int_at ry]
      cases e1 : atI ds i with
      | none => rw [e1] at e; cases e
      | some d =>
        rw [e1] at e
        cases e
        have rx : At K (low ad C H) v (.tup ds) := rx
        unfold At at rx
        obtain ⟨a, xs, rfl, h1, h2⟩ := rx
        obtain ⟨z, hz, rz⟩ := atI_prd (ats_prd h2) e1
        exact ix_row (.inr (sameT (low_same _ _ _) h1)) hz (k _ C _ H ad h hR .refl rz)
    · rename_i j i
      rw [int_at ry]
      split at e
      · rename_i ws e1
        obtain ⟨a, xs, rfl, hr, hx⟩ := row_of' hR rx e1
        obtain ⟨z, hz, rz⟩ := atI_prd hx e
        exact ix_row hr hz (k _ C _ H ad h hR .refl rz)
      · cases e
    · cases e
  · exact h.elim⟩
/-- len(x) -/
def lenW (C : Cs) : W → Option Nat
  | .d (.str z) => some z.length
  | .d (.lst ds) => some ds.length
  | .d (.tup ds) => some ds.length
  | .o i => match rowW C (.o i) with
    | some ws => some ws.length
    | none => none
  | _ => none
def dLen : List W → Cs → (W → Cs → Prop) → Prop := fun ws C Q => match ws with
  | [w] => match lenW C w with
    | some n => Q (.d (.int (n : Nat))) C
    | none => False
  | _ => False
theorem row_len {v : V} {w : W} {ws : List W} {ad : List Addr} {C : Cs} {H : Hp} {Q : VK} (hR : HeapR K ad C H) (r : RepW K (low ad C H) ad v w) (e : rowW C w = some ws) (q : Q (.int (ws.length : Nat)) H) : rLenA K [v] H Q := by
  obtain ⟨a, xs, rfl, hr, hx⟩ := row_of' hR r e
  exact len_row hr (by rw [prd_len hx]; exact q)
instance : LowA K (rLenA K) dLen := ⟨fun ws C ad vs H Qd Q hR r h k => by
  unfold dLen at h
  split at h
  · rename_i w
    cases r with
    | cons r1 r2 =>
      cases r2
      split at h
      · rename_i n e
        unfold lenW at e
        split at e
        · cases e
          obtain ⟨rfl, hl⟩ := str_at r1
          exact len_tx hl (k _ C _ H ad h hR .refl rw_int)
        · cases e
          exact row_len hR r1 rfl (by rw [List.length_map]; exact k _ C _ H ad h hR .refl rw_int)
        · cases e
          exact row_len hR r1 rfl (by rw [List.length_map]; exact k _ C _ H ad h hR .refl rw_int)
        · split at e
          · rename_i ws e1
            cases e
            exact row_len hR r1 e1 (k _ C _ H ad h hR .refl rw_int)
          · cases e
        · cases e
      · exact h.elim
  · exact h.elim⟩
theorem row_items {d : Dt} (h : isRow d = true) {C : Cs} : rowW C (.d d) = some (d.items.map W.d) := by
  cases d with
  | lst ds => rfl
  | tup ds => rfl
  | _ => cases h
theorem lenW_row {d : Dt} (h : isRow d = true) {C : Cs} : lenW C (.d d) = some d.items.length := by
  cases d with
  | lst ds => rfl
  | tup ds => rfl
  | _ => cases h
theorem rowIt_row {d : Dt} (h : isRow d = true) {C : Cs} : rowIt C (.d d) = some (itList (d.items.map W.d)) := by
  cases d with
  | lst ds => rfl
  | tup ds => rfl
  | _ => cases h
theorem ixW_row {d x : Dt} (h : isRow d = true) {C : Cs} {i : Int} (e : atI d.items i = some x) : ixW C (.d d) (.d (.int i)) = some (.d x) := by
  cases d with
  | lst ds => show (atI ds i).map W.d = _; rw [show atI ds i = some x from e]; rfl
  | tup ds => show (atI ds i).map W.d = _; rw [show atI ds i = some x from e]; rfl
  | _ => cases h
/-- truth -/
def tTruth (K : PySem.W.Frag) (t : TE) : TT := fun σ H Q => t σ H fun x H' => ∃ k, TruV K x H' k ∧ Q k H'
theorem pt_truthK (K : PySem.W.Frag) {X : Cx} {a : Expr} {ta : TE} (ha : PE X a ta) (he : ∀ whole, isTrue a X.env whole = (do let v ← whole; standAt a.pos; holding [v] (truthy v))) (hK : X.K = K := by rfl) : PT X a (tTruth K ta) := hK ▸ pt_truth ha he
def truW (C : Cs) : W → Option Bool
  | .d .non => some false
  | .d (.bl b) => some b
  | .d (.int i) => some (i != 0)
  | .d (.str z) => some (!z.isEmpty)
  | .d (.lst ds) => some (!ds.isEmpty)
  | .d (.tup ds) => some (!ds.isEmpty)
  | .o i => match C[i]? with
    | some (.lst ws) => some (!ws.isEmpty)
    | some (.tup ws) => some (!ws.isEmpty)
    | some (.dK kvs) => some (!kvs.isEmpty)
    | _ => none
  | _ => none
theorem prd_emp {α β : Type} {R : α → β → Prop} {xs : List α} {ys : List β} (h : Paired R xs ys) : xs.isEmpty = ys.isEmpty := by cases h <;> rfl
theorem truW_run {ad : List Addr} {C : Cs} {H : Hp} {v : V} {w : W} {b : Bool} (hR : HeapR K ad C H) (r : RepW K (low ad C H) ad v w) (h : truW C w = some b) : TruV K v H b := by
  cases w with
  | d x =>
    cases x with
    | non => cases h; rw [non_at r]; rfl
    | bl b => cases h; rw [bl_at r]; rfl
    | int i => cases h; rw [int_at r]; rfl
    | str z =>
      cases h
      obtain ⟨rfl, hl⟩ := str_at r
      refine ⟨by rw [tx_len]; exact Nat.le_trans hl (by decide), ?_⟩
      rw [tx_len]
      cases z with
      | nil => rfl
      | cons c z => rw [Bool.eq_iff_iff]; simp; omega
    | lst ds =>
      cases h
      have r : At K _ v (.lst ds) := r
      unfold At at r
      obtain ⟨a, xs, rfl, h1, h2⟩ := r
      exact .inl ⟨xs, (low_same _ _ _).seq h1, by rw [prd_emp (ats_prd h2)]⟩
    | tup ds =>
      cases h
      have r : At K _ v (.tup ds) := r
      unfold At at r
      obtain ⟨a, xs, rfl, h1, h2⟩ := r
      exact .inr (.inl ⟨xs, sameT (low_same _ _ _) h1, by rw [prd_emp (ats_prd h2)]⟩)
    | dic => cases h
  | o i =>
    obtain ⟨a, ha, rfl⟩ := r
    dsimp only [truW] at h
    split at h
    · rename_i ws hc
      cases h
      obtain ⟨vs, h1, h2⟩ := hR.rep i a _ ha hc
      exact .inl ⟨vs, SqL.of h1, by rw [prd_emp h2]⟩
    · rename_i ws hc
      cases h
      obtain ⟨vs, h1, h2⟩ := hR.rep i a _ ha hc
      exact .inr (.inl ⟨vs, SqT.of h1, by rw [prd_emp h2]⟩)
    · rename_i ws hc
      cases h
      obtain ⟨vs, h1, h2⟩ := hR.rep i a _ ha hc
      exact .inr (.inr ⟨vs, h1, by rw [prd_emp h2]⟩)
    · cases h
def dTruth (e : TD) : TDT := fun ρ C Q => e ρ C fun w C1 => match truW C1 w with
  | some b => Q b C1
  | none => False
instance {t : TE} {d : TD} [a : SimE K t d] : SimT K (tTruth K t) (dTruth d) := ⟨fun ρ C ad σ H Qd Q hR sR h k => a.run ρ C ad σ H _ _ hR sR h fun w C1 v H1 ad1 q1 hR1 g1 r1 => by
  split at q1
  · rename_i b e
    exact ⟨b, truW_run hR1 r1 e, k b C1 H1 ad1 q1 hR1 g1⟩
  · exact q1.elim⟩
/-- chains -/
instance {r r' : R2} {d d' : RD2} {ta tb tc : TE} {da db dc : TD} [l : Low2 K r d] [l' : Low2 K r' d'] [a : SimE K ta da] [b : SimE K tb db] [c : SimE K tc dc] : SimE K (tChain r r' ta tb tc) (dChain d d' da db dc) := ⟨fun ρ C ad σ H Qd Q hR sR h k =>
  a.run ρ C ad σ H _ _ hR sR h fun x C1 v H1 ad1 q1 hR1 g1 r1 => b.run ρ C1 ad1 σ H1 _ _ hR1 (sR.grw g1) q1 fun y C2 u H2 ad2 q2 hR2 g2 r2 => l.run x y C2 ad2 v u H2 _ _ hR2 (r1.grw g2) r2 q2 fun z C3 z' H3 ad3 q3 hR3 g3 r3 => by
    have g13 := (g1.trans g2).trans g3
    split at q3
    · rename_i b
      refine ⟨b, bl_at r3, ?_⟩
      cases b with
      | false => exact k _ C3 _ H3 ad3 q3 hR3 g13 rw_bl
      | true => exact c.run ρ C3 ad3 σ H3 _ _ hR3 (sR.grw g13) q3 fun t C4 t' H4 ad4 q4 hR4 g4 r4 => l'.run y t C4 ad4 u t' H4 _ _ hR4 ((r2.grw g3).grw g4) r4 q4 (k.grw (g13.trans g4))
    · exact q3.elim⟩
end
end BK

namespace BK
open PySem PySem.Spec PyProof.Rows L2
section
variable {K : PySem.W.Frag}
/-! ## lists -/
/-- two lists of any kind joined -/
def rCatL (K : PySem.W.Frag) : R2 := fun x y H Q => ∃ l b xs zs, x = .ref l ∧ y = .ref b ∧ SqL K H l xs ∧ SqL K H b zs ∧ xs.length + zs.length ≤ sizeLine ∧ ∀ p, H p = none → Q (.ref p) (upd H p (.lst (xs ++ zs)))
theorem q_cat (K : PySem.W.Frag) {X : Cx} (hK : X.K = K := by rfl) : OpR X (binaryOp .Add) (rCatL K) := by
  subst hK
  intro pn sh σ G x y v u Q J rx ry h
  obtain ⟨l, b, xs, zs, rfl, rfl, sl, sb, few, q⟩ := h
  cases rx
  cases ry
  obtain ⟨us, r1, ⟨⟨c1, d1, t1, o1⟩, n1, e1, k1, k2, k3⟩, z1⟩ := J.list sl
  obtain ⟨ws, r2, ⟨⟨c2, d2, t2, o2⟩, n2, e2, m1, m2, m3⟩, z2⟩ := J.list sb
  dsimp only at k1 k2 k3 m1 m2 m3
  subst k1 k2 k3 m1 m2 m3
  have l1 := r1.length
  have l2 := r2.length
  have sz : us.toArray.size + ws.toArray.size ≤ sizeLine := by
    simp only [List.size_toArray]
    omega
  have ea : us.toArray ++ ws.toArray = (us ++ ws).toArray := by simp
  refine concat_meets ⟨_, e1, rfl⟩ ⟨_, e2, rfl⟩ noFill_list_add seq_list_add PySem.F.slot_list_add PySem.F.entry_list_add (PySem.F.args_list_add_2 _ _) (PyProof.Rows.list_addW l b us.toArray ws.toArray n1 n2 none none o1 o2 sz) ⟨e1, e2, ?_⟩
  rw [ea]
  exact ⟨.ref _, _, J.lnew (t' := sh.toks) (r1.append r2) (by rw [List.length_append]; omega), rfl, q _ J.fresh⟩
def dCat : RD2 := fun x y C Q => match lstW C x, lstW C y with
  | some xs, some ys => xs.length + ys.length ≤ 16777216 ∧ newL (xs ++ ys) C Q
  | _, _ => False
theorem prd_app2 {α β : Type} {R : α → β → Prop} {xs us : List α} {ys vs : List β} (h : Paired R xs ys) (k : Paired R us vs) : Paired R (xs ++ us) (ys ++ vs) := by
  induction h with
  | nil => exact k
  | cons r t ih => exact .cons r ih
instance : Low2 K (rCatL K) dCat := ⟨fun x y C ad v u H Qd Q hR rx ry h k => by
  unfold dCat at h
  split at h
  · rename_i xs ys e1 e2
    obtain ⟨a, vs, rfl, h1, r1, _⟩ := lst_of hR rx e1
    obtain ⟨b, us, rfl, h2, r2, _⟩ := lst_of hR ry e2
    exact ⟨a, b, vs, us, rfl, rfl, h1, h2, by rw [prd_len r1, prd_len r2, line_is]; exact h.1, newL_run hR (prd_app2 r1 r2) h.2 k⟩
  · exact h.elim⟩
def dRep : RD2 := fun x y C Q => match x, y with
  | .o i, .d (.int k) => match C[i]? with
    | some (.lst ws) => (-(2 ^ 63) ≤ k ∧ k < 2 ^ 63 ∧ ws.length * k.toNat ≤ 16777216) ∧ newL (List.replicate k.toNat ws).flatten C Q
    | _ => False
  | _, _ => False
theorem prd_rep {α β : Type} {R : α → β → Prop} {xs : List α} {ys : List β} (h : Paired R xs ys) : ∀ n, Paired R (List.replicate n xs).flatten (List.replicate n ys).flatten
  | 0 => .nil
  | n + 1 => by rw [List.replicate_succ, List.replicate_succ, List.flatten_cons, List.flatten_cons]; exact prd_app2 h (prd_rep h n)
instance : Low2 K rRep dRep := ⟨fun x y C ad v u H Qd Q hR rx ry h k => by
  unfold dRep at h
  split at h
  · rename_i i n
    split at h
    · rename_i ws hc
      obtain ⟨a, vs, rfl, h1, r1, _⟩ := own_of hR rx hc
      exact ⟨a, n, vs, rfl, int_at ry, h1, h.1.1, h.1.2.1, by rw [prd_len r1, line_is]; exact h.1.2.2, newL_run hR (prd_rep r1 n.toNat) h.2 k⟩
    · exact h.elim
  · exact h.elim⟩
def isL (C : Cs) (w : W) : Bool := (lstW C w).isSome
/-- a list's method -/
def dML (r : W → List W → Cs → (W → Cs → Prop) → Prop) (o : TD) (a : TDA) : TD := fun ρ C Q => o ρ C fun x C1 => isL C1 x = true ∧ a ρ C1 fun ws C2 => r x ws C2 Q
def dML0 (r : W → List W → Cs → (W → Cs → Prop) → Prop) (o : TD) : TD := fun ρ C Q => o ρ C fun x C1 => isL C1 x = true ∧ r x [] C1 Q
theorem isL_ty {ad : List Addr} {C : Cs} {H : Hp} {v : V} {w : W} (hR : HeapR K ad C H) (r : RepW K (low ad C H) ad v w) (h : isL C w = true) : tyV K "list" v H := by
  unfold isL at h
  obtain ⟨ws, e⟩ := Option.isSome_iff_exists.mp h
  obtain ⟨a, vs, rfl, h1, _⟩ := lst_of hR r e
  exact .inl ⟨rfl, vs, h1⟩
instance {r : V → List V → Hp → VK → Prop} {rd : W → List W → Cs → (W → Cs → Prop) → Prop} {t : TE} {ta : TA} {d : TD} {da : TDA} [l : LowM K r rd] [o : SimE K t d] [a : SimA K ta da] : SimE K (tBM K "list" r t ta) (dML rd d da) := ⟨fun ρ C ad σ H Qd Q hR sR h k =>
  o.run ρ C ad σ H _ _ hR sR h fun x C1 v H1 ad1 q1 hR1 g1 r1 => ⟨isL_ty hR1 r1 q1.1, a.run ρ C1 ad1 σ H1 _ _ hR1 (sR.grw g1) q1.2 fun ws C2 vs H2 ad2 q2 hR2 g2 r2 => l.run x ws C2 ad2 v vs H2 _ _ hR2 (r1.grw g2) r2 q2 (k.grw (g1.trans g2))⟩⟩
instance {r : V → List V → Hp → VK → Prop} {rd : W → List W → Cs → (W → Cs → Prop) → Prop} {t : TE} {d : TD} [l : LowM K r rd] [o : SimE K t d] : SimE K (tBM0 K "list" r t) (dML0 rd d) := ⟨fun ρ C ad σ H Qd Q hR sR h k =>
  o.run ρ C ad σ H _ _ hR sR h fun x C1 v H1 ad1 q1 hR1 g1 r1 => ⟨isL_ty hR1 r1 q1.1, l.run x [] C1 ad1 v [] H1 _ _ hR1 r1 .nil q1.2 (k.grw g1)⟩⟩
theorem set_own {ad : List Addr} {C : Cs} {H : Hp} {i : Nat} {a : Addr} {ws ws' : List W} {vs' : List V} (hR : HeapR K ad C H) (ha : ad[i]? = some a) (hc : C[i]? = some (.lst ws)) (r : RepWs K (low ad C H) ad vs' ws') : HeapR K ad (C.set i (.lst ws')) (upd H a (.lst vs')) ∧ Grw ad C H ad (C.set i (.lst ws')) (upd H a (.lst vs')) :=
  hR.set ha hc (fun z => by cases z) (fun z => by cases z) ⟨vs', upd_same, r⟩
def dApp : W → List W → Cs → (W → Cs → Prop) → Prop := fun x ws C Q => match x, ws with
  | .o i, [y] => match C[i]? with
    | some (.lst xs) => xs.length < 16777216 ∧ Q (.d .non) (C.set i (.lst (xs ++ [y])))
    | _ => False
  | _, _ => False
instance : LowM K rAppend dApp := ⟨fun x ws C ad v vs H Qd Q hR rx r h k => by
  unfold dApp at h
  split at h
  · rename_i i y
    split at h
    · rename_i xs hc
      obtain ⟨a, us, rfl, h1, r1, ha⟩ := own_of hR rx hc
      cases r with
      | cons ry rr =>
        cases rr
        obtain ⟨hR2, g2⟩ := set_own hR ha hc (prd_snoc r1 ry)
        exact ⟨a, us, _, rfl, rfl, h1, by rw [prd_len r1, line_is]; exact h.1, k _ _ _ _ ad h.2 hR2 g2 rw_non⟩
    · exact h.elim
  · exact h.elim⟩
def dExt : W → List W → Cs → (W → Cs → Prop) → Prop := fun x ws C Q => match x, ws with
  | .o i, [.o j] => match C[i]?, C[j]? with
    | some (.lst xs), some (.lst ys) => xs.length + ys.length ≤ 16777216 ∧ Q (.d .non) (C.set i (.lst (xs ++ ys)))
    | _, _ => False
  | _, _ => False
instance : LowM K rExtend dExt := ⟨fun x ws C ad v vs H Qd Q hR rx r h k => by
  unfold dExt at h
  split at h
  · rename_i i j
    split at h
    · rename_i xs ys hc hc2
      obtain ⟨a, us, rfl, h1, r1, ha⟩ := own_of hR rx hc
      cases r with
      | cons ry rr =>
        cases rr
        obtain ⟨b, zs, rfl, h2, r2, hb⟩ := own_of hR ry hc2
        obtain ⟨hR2, g2⟩ := set_own hR ha hc (prd_app2 r1 r2)
        exact ⟨a, b, us, zs, rfl, rfl, h1, h2, by rw [prd_len r1, prd_len r2, line_is]; exact h.1, k _ _ _ _ ad h.2 hR2 g2 rw_non⟩
    · exact h.elim
  · exact h.elim⟩
theorem prd_rev2 {α β : Type} {R : α → β → Prop} {xs : List α} {ys : List β} (h : Paired R xs ys) : Paired R xs.reverse ys.reverse := by
  induction h with
  | nil => exact .nil
  | cons r t ih => rw [List.reverse_cons, List.reverse_cons]; exact prd_app2 ih (.cons r .nil)
theorem prd_take2 {α β : Type} {R : α → β → Prop} {xs : List α} {ys : List β} (h : Paired R xs ys) : ∀ n, Paired R (xs.take n) (ys.take n) := by
  induction h with
  | nil => intro n; rw [List.take_nil, List.take_nil]; exact .nil
  | cons r t ih =>
    intro n
    cases n with
    | zero => exact .nil
    | succ n => exact .cons r (ih n)
theorem prd_drop2 {α β : Type} {R : α → β → Prop} {xs : List α} {ys : List β} (h : Paired R xs ys) : ∀ n, Paired R (xs.drop n) (ys.drop n) := by
  induction h with
  | nil => intro n; rw [List.drop_nil, List.drop_nil]; exact .nil
  | cons r t ih =>
    intro n
    cases n with
    | zero => exact .cons r t
    | succ n => exact ih n
def dRev : W → List W → Cs → (W → Cs → Prop) → Prop := fun x ws C Q => match x, ws with
  | .o i, [] => match C[i]? with
    | some (.lst xs) => Q (.d .non) (C.set i (.lst xs.reverse))
    | _ => False
  | _, _ => False
instance : LowM K rReverse dRev := ⟨fun x ws C ad v vs H Qd Q hR rx r h k => by
  unfold dRev at h
  split at h
  · rename_i i
    split at h
    · rename_i xs hc
      obtain ⟨a, us, rfl, h1, r1, ha⟩ := own_of hR rx hc
      cases r
      obtain ⟨hR2, g2⟩ := set_own hR ha hc (prd_rev2 r1)
      exact ⟨a, us, rfl, rfl, h1, k _ _ _ _ ad h hR2 g2 rw_non⟩
    · exact h.elim
  · exact h.elim⟩
def dPop : W → List W → Cs → (W → Cs → Prop) → Prop := fun x ws C Q => match x, ws with
  | .o i, [] => match C[i]? with
    | some (.lst xs) => match xs[xs.length - 1]? with
      | some y => Q y (C.set i (.lst xs.dropLast))
      | none => False
    | _ => False
  | _, _ => False
instance : LowM K rPop dPop := ⟨fun x ws C ad v vs H Qd Q hR rx r h k => by
  unfold dPop at h
  split at h
  · rename_i i
    split at h
    · rename_i xs hc
      split at h
      · rename_i y e
        obtain ⟨a, us, rfl, h1, r1, ha⟩ := own_of hR rx hc
        cases r
        obtain ⟨z, hz, rz⟩ := prd_atR r1 e
        have rd : RepWs K (low ad C H) ad us.dropLast xs.dropLast := by
          rw [List.dropLast_eq_take, List.dropLast_eq_take, prd_len r1]
          exact prd_take2 r1 _
        obtain ⟨hR2, g2⟩ := set_own hR ha hc rd
        exact ⟨a, us, z, rfl, rfl, h1, by rw [prd_len r1]; exact hz, k _ _ _ _ ad h hR2 g2 (rz.grw g2)⟩
      · exact h.elim
    · exact h.elim
  · exact h.elim⟩
/-- list(row), tuple(row) -/
def dListOf : List W → Cs → (W → Cs → Prop) → Prop := fun ws C Q => match ws with
  | [w] => match rowW C w with
    | some xs => newL xs C Q
    | none => False
  | _ => False
theorem q_list (K : PySem.W.Frag) {X : Cx} (hK : X.K = K := by rfl) : CallR X (.type "list") (rListOf K) := by
  subst hK
  exact call_list_of
instance : LowA K (rListOf K) dListOf := ⟨fun ws C ad vs H Qd Q hR r h k => by
  unfold dListOf at h
  split at h
  · split at h
    · rename_i xs e
      cases r with
      | cons r1 r2 =>
        cases r2
        obtain ⟨a, us, rfl, hr, hx⟩ := row_of' hR r1 e
        exact ⟨a, us, rfl, hr, newL_run hR hx h k⟩
    · exact h.elim
  · exact h.elim⟩
/-- list(text) -/
def dListT : List W → Cs → (W → Cs → Prop) → Prop := fun ws C Q => match ws with
  | [.d (.str z)] => newL (z.map fun c => W.d (.str [c])) C Q
  | _ => False
def rListT : List V → Hp → VK → Prop := fun xs H Q => ∃ x : Str, xs = [.str x] ∧ x.cps.size ≤ sizeLine ∧ ∀ p, H p = none → Q (.ref p) (upd H p (.lst (x.cps.toList.map fun c => V.str (tx [c]))))
theorem q_listT {X : Cx} (hc : X.calm = true) : CallR X (.type "list") rListT := call_listS hc
instance : LowA K rListT dListT := ⟨fun ws C ad vs H Qd Q hR r h k => by
  unfold dListT at h
  split at h
  · rename_i z
    cases r with
    | cons r1 r2 =>
      cases r2
      obtain ⟨rfl, hl⟩ := str_at r1
      refine ⟨tx z, rfl, ?_, ?_⟩
      · have : (tx z).cps.size = z.length := by unfold tx; simp
        rw [this]
        exact Nat.le_trans hl (by decide)
      · rw [tx_cps]
        refine newL_run hR ?_ h k
        have : ∀ l : List Nat, RepWs K (low ad C H) ad (l.map fun c => V.str (tx [c])) (l.map fun c => W.d (.str [c])) := fun l => by
          induction l with
          | nil => exact .nil
          | cons c l ih => exact .cons (rw_str (z := [c]) (by show 1 ≤ 1000000; decide)) ih
        exact this z
  · exact h.elim⟩
def dTupOf : List W → Cs → (W → Cs → Prop) → Prop := fun ws C Q => match ws with
  | [.d (.tup ds)] => Q (.d (.tup ds)) C
  | [.d (.lst ds)] => Q (.d (.tup ds)) C
  | [.o i] => match C[i]? with
    | some (.lst xs) => newT xs C Q
    | some (.tup _) => Q (.o i) C
    | _ => False
  | _ => False
instance : LowA K (rTupOf K) dTupOf := ⟨fun ws C ad vs H Qd Q hR r h k => by
  unfold dTupOf at h
  split at h
  · rename_i ds
    cases r with
    | cons r1 r2 =>
      cases r2
      have r3 : At K _ _ (.tup ds) := r1
      unfold At at r3
      obtain ⟨a, xs, rfl, h1, h2⟩ := r3
      exact ⟨a, xs, rfl, .inr ⟨sameT (low_same _ _ _) h1, k _ C _ H ad h hR .refl r1⟩⟩
  · rename_i ds
    cases r with
    | cons r1 r2 =>
      cases r2
      obtain ⟨a, us, rfl, h1, r1, _⟩ := lst_of hR r1 (ws := ds.map W.d) rfl
      exact ⟨a, us, rfl, .inl ⟨h1, fun l nl => k _ C _ _ ad h (hR.same (same_upd nl)) (grw_same (same_upd nl)) (put_tup hR nl r1)⟩⟩
  · rename_i i
    cases r with
    | cons r1 r2 =>
      cases r2
      split at h
      · rename_i xs hc
        obtain ⟨a, us, rfl, h1, r1, _⟩ := own_of hR r1 hc
        exact ⟨a, us, rfl, .inl ⟨SqL.of h1, newT_run hR r1 h k⟩⟩
      · rename_i xs hc
        have r1' := r1
        obtain ⟨a, ha, rfl⟩ := r1
        obtain ⟨us, h1, h2⟩ := hR.rep i a _ ha hc
        exact ⟨a, us, rfl, .inr ⟨SqT.of h1, k _ C _ H ad h hR .refl r1'⟩⟩
      · exact h.elim
  · exact h.elim⟩
/-- x[a:b] of a list -/
def cutW (xs : List W) (lo hi : Option Int) : List W := (xs.drop (HT.sIx xs.length 0 lo)).take (HT.sIx xs.length xs.length hi - HT.sIx xs.length 0 lo)
def dSlL : W → Option Int → Option Int → Cs → (W → Cs → Prop) → Prop := fun x lo hi C Q => match lstW C x with
  | some xs => newL (cutW xs lo hi) C Q
  | none => False
instance : LowSl K (rSlL K) dSlL := ⟨fun x lo hi C ad v H Qd Q hR r h k => by
  unfold dSlL at h
  split at h
  · rename_i xs e
    obtain ⟨a, us, rfl, h1, r1, _⟩ := lst_of hR r e
    refine ⟨a, us, rfl, h1, newL_run hR ?_ h k⟩
    show Paired _ (cutV us lo hi) _
    unfold cutV cutW
    rw [prd_len r1]
    exact prd_take2 (prd_drop2 r1 _) _
  · exact h.elim⟩
instance {r : V → Option Int → Option Int → Hp → VK → Prop} {rd : W → Option Int → Option Int → Cs → (W → Cs → Prop) → Prop} {t : TE} {tl th : TO} {d : TD} {dl dh : TDO} [l : LowSl K r rd] [a : SimE K t d] [b : SimO K tl dl] [c : SimO K th dh] : SimE K (L2.tSl r t tl th) (dSl rd d dl dh) := ⟨fun ρ C ad σ H Qd Q hR sR h k =>
  a.run ρ C ad σ H _ _ hR sR h fun x C1 v H1 ad1 q1 hR1 g1 r1 => b.run ρ C1 ad1 σ H1 _ _ hR1 (sR.grw g1) q1 fun i C2 H2 ad2 q2 hR2 g2 => c.run ρ C2 ad2 σ H2 _ _ hR2 (sR.grw (g1.trans g2)) q2 fun j C3 H3 ad3 q3 hR3 g3 =>
    l.run x i j C3 ad3 v H3 _ _ hR3 (r1.grw (g2.trans g3)) q3 (k.grw ((g1.trans g2).trans g3))⟩
/-- x[a:b] of a text -/
def dSlS : W → Option Int → Option Int → Cs → (W → Cs → Prop) → Prop := fun x lo hi C Q => match x with
  | .d (.str z) => Q (.d (.str ((z.drop (HT.sIx z.length 0 lo)).take (HT.sIx z.length z.length hi - HT.sIx z.length 0 lo)))) C
  | _ => False
instance : LowSl K rSlS dSlS := ⟨fun x lo hi C ad v H Qd Q hR r h k => by
  unfold dSlS at h
  split at h
  · rename_i z
    obtain ⟨rfl, hl⟩ := str_at r
    refine ⟨tx z, rfl, by rw [tx_len]; exact Nat.le_trans hl (by decide), ?_⟩
    have e : cutS (tx z) lo hi = tx ((z.drop (HT.sIx z.length 0 lo)).take (HT.sIx z.length z.length hi - HT.sIx z.length 0 lo)) := by
      unfold cutS
      rw [tx_cps, tx_len]
      rfl
    rw [e]
    refine k _ C _ H ad h hR .refl (rw_str ?_)
    rw [List.length_take, List.length_drop]
    omega
  · exact h.elim⟩
end
end BK

namespace BK
open PySem PySem.Spec PyProof.Rows L2
section
variable {X : Cx} (K : PySem.W.Frag)
theorem pi_enumRK {e : Expr} {ta : TA} {p pos tpos : Pos} {elts : List Expr} {kk : Nat} (gl : Gl X "enumerate") (mn : X.mg "enumerate" = none) (ha : PA X [e] ta) (hs : starEach [e] X.env = [(false, eval e X.env)] := by rfl) (hK : X.K = K := by rfl) :
    PI X (.Tuple elts kk tpos) (.Call (.Name "enumerate" p) [e] [] pos) (iEnumR K ta) := hK ▸ pi_enumR gl mn ha hs
theorem q_sum (hc : X.calm = true) (hK : X.K = K := by rfl) : CallR X (.builtin "sum") (rSum K) := hK ▸ cr_sum hc
theorem q_all (hc : X.calm = true) (hK : X.K = K := by rfl) : CallR X (.builtin "all") (rAll K) := hK ▸ cr_all hc
theorem q_any (hc : X.calm = true) (hK : X.K = K := by rfl) : CallR X (.builtin "any") (rAny K) := hK ▸ cr_any hc
def rMax2 : List V → Hp → VK → Prop := fun xs H Q => ∃ i j, xs = [.int i, .int j] ∧ Q (.int (if j > i then j else i)) H
def rMin2 : List V → Hp → VK → Prop := fun xs H Q => ∃ i j, xs = [.int i, .int j] ∧ Q (.int (if j < i then j else i)) H
theorem q_max2 (hc : X.calm = true) : CallR X (.builtin "max") rMax2 := call_max2 hc
theorem q_min2 (hc : X.calm = true) : CallR X (.builtin "min") rMin2 := call_min2 hc
def rInt1 : List V → Hp → VK → Prop := fun xs H Q => (∃ i, xs = [.int i] ∧ Q (.int i) H) ∨ ∃ k, xs = [.bl k] ∧ Q (.int (if k then 1 else 0)) H
theorem q_int1 : CallR X (.type "int") rInt1 := call_int1
def rStrI : List V → Hp → VK → Prop := fun xs H Q => ∃ i, xs = [.int i] ∧ i.natAbs.log2 < 1920 ∧ Q (.str (toString i)) H
theorem q_strI : CallR X (.type "str") rStrI := call_str_int
theorem q_in (hK : X.K = K := by rfl) : OpR X (compareOp .In) (rIn K false) := hK ▸ op_in_seq
theorem q_notIn (hK : X.K = K := by rfl) : OpR X (compareOp .NotIn) (rIn K true) := hK ▸ op_notIn_seq
def rDivmod : List V → Hp → VK → Prop := fun xs H Q => ∃ i j, xs = [.int i, .int j] ∧ CDiv i j ∧ ∀ p, H p = none → Q (.ref p) (upd H p (.tup [.int (i / j), .int (i % j)]))
theorem q_divmod : CallR X (.builtin "divmod") rDivmod := call_divmod
def rJoin (K : PySem.W.Frag) : V → List V → Hp → VK → Prop := fun x xs H Q => ∃ a p, ∃ ys : List Str, x = .str a ∧ xs = [.ref p] ∧ (SqL K H p (ys.map V.str) ∨ SqT K H p (ys.map V.str)) ∧ (ys.map (·.length)).sum + ys.length * a.length ≤ 16777216 ∧ Q (.str (Txt.join a ys)) H
theorem q_join (hK : X.K = K := by rfl) : MtR X "str.join" (rJoin K) := hK ▸ mt_join
def rStrip : V → List V → Hp → VK → Prop := fun x xs H Q => ∃ a b, x = .str a ∧ xs = [.str b] ∧ a.length ≤ sizeLine ∧ Q (.str (Txt.stripChars a b)) H
theorem q_strip : MtR X "str.strip" rStrip := mt_stripChars
def rCountS : V → List V → Hp → VK → Prop := fun x xs H Q => ∃ a b, x = .str a ∧ xs = [.str b] ∧ Q (.int (Txt.count a b)) H
theorem q_countS : MtR X "str.count" rCountS := mt_count
def rPart : V → List V → Hp → VK → Prop := fun x xs H Q => ∃ a b, x = .str a ∧ xs = [.str b] ∧ (b.length == 0) = false ∧ a.length ≤ sizeLine ∧ ∀ p, H p = none → Q (.ref p) (upd H p (.tup [.str (Txt.partition a b).1, .str (Txt.partition a b).2.1, .str (Txt.partition a b).2.2]))
theorem q_part : MtR X "str.partition" rPart := mt_partition
def rSplit : V → List V → Hp → VK → Prop := fun x xs H Q => ∃ a b, x = .str a ∧ xs = [.str b] ∧ (b.length == 0) = false ∧ a.length + 2 ≤ sizeLine ∧ ∀ p, H p = none → Q (.ref p) (upd H p (.lst ((Txt.split a b).map V.str)))
theorem q_split : MtR X "str.split" rSplit := mt_split
section
variable {T id : String} {name : Str} {o e : Expr} {es : List Expr} {to : TE} {t : TA} {r : V → List V → Hp → VK → Prop} {apos cpos : Pos}
theorem pe_bmK (pa : PlainAttrs T) (slot : Slot T name id) (hty : typeOf (.builtin id) = pure (.type "method_descriptor")) (hm : MtR X id r) (ho : PE X o to) (ha : PA X (e :: es) t)
    (hbase : attributeBase o name X.env (eval o X.env) = eval o X.env := by rfl)
    (hfew : ((backTo cpos (starEach (e :: es) X.env)).all (fun x => !x.1) && (backToKw cpos (keywordEach [] X.env)).all (fun x => x.1.isSome) && decide ((e :: es).length + ([] : List Keyword).length + (if ([] : List Keyword).isEmpty then 0 else 1) < 30)) = true := by rfl)
    (hline : (apos.endLine == cpos.line) = true := by rfl) (hs : starEach (e :: es) X.env = (false, eval e X.env) :: starEach es X.env := by rfl) (hplain : (backTo cpos (starEach es X.env)).any (·.1) = false := by rfl) (hK : X.K = K := by rfl) :
    PE X (.Call (.Attribute o name apos) (e :: es) [] cpos) (tBM K T r to t) := hK ▸ pe_bm pa slot hty hm ho ha hbase hfew hline hs hplain
theorem pe_bm0K (pa : PlainAttrs T) (slot : Slot T name id) (hty : typeOf (.builtin id) = pure (.type "method_descriptor")) (hm : MtR X id r) (ho : PE X o to)
    (hbase : attributeBase o name X.env (eval o X.env) = eval o X.env := by rfl) (hline : (apos.endLine == cpos.line) = true := by rfl) (hK : X.K = K := by rfl) : PE X (.Call (.Attribute o name apos) [] [] cpos) (tBM0 K T r to) := hK ▸ pe_bm0 pa slot hty hm ho hbase hline
end
end
section
variable {K : PySem.W.Frag}
def iMax (i j : Int) : Int := if j > i then j else i
def iMin (i j : Int) : Int := if j < i then j else i
def dMax2 : List W → Cs → (W → Cs → Prop) → Prop := fun ws C Q => match ws with
  | [.d (.int i), .d (.int j)] => Q (.d (.int (iMax i j))) C
  | _ => False
def dMin2 : List W → Cs → (W → Cs → Prop) → Prop := fun ws C Q => match ws with
  | [.d (.int i), .d (.int j)] => Q (.d (.int (iMin i j))) C
  | _ => False
instance : LowA K rMax2 dMax2 := ⟨fun ws C ad vs H Qd Q hR r h k => by
  unfold dMax2 at h
  split at h
  · cases r with
    | cons r1 r2 => cases r2 with
      | cons r2 r3 =>
        cases r3
        exact ⟨_, _, by rw [int_at r1, int_at r2], k _ C _ H ad h hR .refl rw_int⟩
  · exact h.elim⟩
instance : LowA K rMin2 dMin2 := ⟨fun ws C ad vs H Qd Q hR r h k => by
  unfold dMin2 at h
  split at h
  · cases r with
    | cons r1 r2 => cases r2 with
      | cons r2 r3 =>
        cases r3
        exact ⟨_, _, by rw [int_at r1, int_at r2], k _ C _ H ad h hR .refl rw_int⟩
  · exact h.elim⟩
def dDivmod : List W → Cs → (W → Cs → Prop) → Prop := fun ws C Q => match ws with
  | [.d (.int i), .d (.int j)] => CDiv i j ∧ Q (.d (.tup [.int (i / j), .int (i % j)])) C
  | _ => False
instance : LowA K rDivmod dDivmod := ⟨fun ws C ad vs H Qd Q hR r h k => by
  unfold dDivmod at h
  split at h
  · cases r with
    | cons r1 r2 => cases r2 with
      | cons r2 r3 =>
        cases r3
        refine ⟨_, _, by rw [int_at r1, int_at r2], h.1, fun p np => k _ C _ _ ad h.2 (hR.same (same_upd np)) (grw_same (same_upd np)) ?_⟩
        exact put_tup hR np (.cons rw_int (.cons rw_int .nil))
  · exact h.elim⟩
def dInt1 : List W → Cs → (W → Cs → Prop) → Prop := fun ws C Q => match ws with
  | [.d (.int i)] => Q (.d (.int i)) C
  | [.d (.bl b)] => Q (.d (.int (if b then 1 else 0))) C
  | _ => False
instance : LowA K rInt1 dInt1 := ⟨fun ws C ad vs H Qd Q hR r h k => by
  unfold dInt1 at h
  split at h
  · cases r with
    | cons r1 r2 => cases r2; exact .inl ⟨_, by rw [int_at r1], k _ C _ H ad h hR .refl rw_int⟩
  · cases r with
    | cons r1 r2 => cases r2; exact .inr ⟨_, by rw [bl_at r1], k _ C _ H ad h hR .refl rw_int⟩
  · exact h.elim⟩
/-- a whole number's figures -/
def figs (i : Int) : List Nat := cd (Str.ofString (toString i))
def dStrOf : List W → Cs → (W → Cs → Prop) → Prop := fun ws C Q => match ws with
  | [.d (.int i)] => i.natAbs < 10 ^ 47 ∧ Q (.d (.str (figs i))) C
  | _ => False
theorem figs_len {i : Int} (h : i.natAbs < 10 ^ 47) : (figs i).length ≤ 48 := by
  have := int48 h
  unfold figs cd
  exact this
theorem tx_cd (z : Str) : tx (cd z) = z := tx_of z
instance : LowA K rStrI dStrOf := ⟨fun ws C ad vs H Qd Q hR r h k => by
  unfold dStrOf at h
  split at h
  · rename_i i
    cases r with
    | cons r1 r2 =>
      cases r2
      refine ⟨i, by rw [int_at r1], int_log h.1, ?_⟩
      rw [show (toString i : Str) = tx (figs i) from (tx_cd _).symm]
      exact k _ C _ H ad h.2 hR .refl (rw_str (Nat.le_trans (figs_len h.1) (by decide)))
  · exact h.elim⟩
/-! ## sums, all, any -/
def selI : List W → Option (List Int)
  | [] => some []
  | .d (.int i) :: ws => (selI ws).map (i :: ·)
  | _ :: _ => none
def selB : List W → Option (List Bool)
  | [] => some []
  | .d (.bl i) :: ws => (selB ws).map (i :: ·)
  | _ :: _ => none
theorem selI_of : ∀ {ws : List W} {ns : List Int}, selI ws = some ns → ws = ns.map fun i => W.d (.int i)
  | [], ns, h => by cases h; rfl
  | .d (.int i) :: ws, ns, h => by
    dsimp only [selI] at h
    cases e : selI ws with
    | none => rw [e] at h; cases h
    | some es => rw [e] at h; cases h; rw [selI_of e]; rfl
  | .d .non :: _, _, h => nomatch h
  | .d (.bl _) :: _, _, h => nomatch h
  | .d (.str _) :: _, _, h => nomatch h
  | .d (.lst _) :: _, _, h => nomatch h
  | .d (.tup _) :: _, _, h => nomatch h
  | .d .dic :: _, _, h => nomatch h
  | .o _ :: _, _, h => nomatch h
theorem selB_of : ∀ {ws : List W} {ns : List Bool}, selB ws = some ns → ws = ns.map fun i => W.d (.bl i)
  | [], ns, h => by cases h; rfl
  | .d (.bl i) :: ws, ns, h => by
    dsimp only [selB] at h
    cases e : selB ws with
    | none => rw [e] at h; cases h
    | some es => rw [e] at h; cases h; rw [selB_of e]; rfl
  | .d .non :: _, _, h => nomatch h
  | .d (.int _) :: _, _, h => nomatch h
  | .d (.str _) :: _, _, h => nomatch h
  | .d (.lst _) :: _, _, h => nomatch h
  | .d (.tup _) :: _, _, h => nomatch h
  | .d .dic :: _, _, h => nomatch h
  | .o _ :: _, _, h => nomatch h
theorem selI_map (ns : List Int) : selI (ns.map fun i => W.d (.int i)) = some ns := by
  induction ns with
  | nil => rfl
  | cons n ns ih => show (selI (ns.map fun i => W.d (.int i))).map (n :: ·) = _; rw [ih]; rfl
theorem selB_map (ns : List Bool) : selB (ns.map fun i => W.d (.bl i)) = some ns := by
  induction ns with
  | nil => rfl
  | cons n ns ih => show (selB (ns.map fun i => W.d (.bl i))).map (n :: ·) = _; rw [ih]; rfl
theorem int_vs {L : Hp} {ad : List Addr} : ∀ {ns : List Int} {vs : List V}, RepWs K L ad vs (ns.map fun i => W.d (.int i)) → vs = ns.map V.int
  | [], vs, h => by cases h; rfl
  | n :: ns, vs, h => by
    cases h with
    | cons r t => rw [int_at r, int_vs t]; rfl
theorem bl_vs {L : Hp} {ad : List Addr} : ∀ {ns : List Bool} {vs : List V}, RepWs K L ad vs (ns.map fun i => W.d (.bl i)) → vs = ns.map V.bl
  | [], vs, h => by cases h; rfl
  | n :: ns, vs, h => by
    cases h with
    | cons r t => rw [bl_at r, bl_vs t]; rfl
def one : List W → Option W
  | [w] => some w
  | _ => none
def dFold {α : Type} (sel : List W → Option (List α)) (f : List α → Dt) : List W → Cs → (W → Cs → Prop) → Prop := fun ws C Q => match ws with
  | [w] => match lstW C w with
    | some xs => match sel xs with
      | some ns => Q (.d (f ns)) C
      | none => False
    | none => False
  | _ => False
instance : LowA K (rSum K) (dFold selI fun ns => .int ns.sum) := ⟨fun ws C ad vs H Qd Q hR r h k => by
  unfold dFold at h
  split at h
  · split at h
    · rename_i xs e
      split at h
      · rename_i ns e2
        cases r with
        | cons r1 r2 =>
          cases r2
          obtain ⟨a, us, rfl, h1, r1, _⟩ := lst_of hR r1 e
          rw [selI_of e2] at r1
          rw [int_vs r1] at h1
          exact ⟨a, ns, rfl, h1, k _ C _ H ad h hR .refl rw_int⟩
      · exact h.elim
    · exact h.elim
  · exact h.elim⟩
instance : LowA K (rAll K) (dFold selB fun ns => .bl (ns.all id)) := ⟨fun ws C ad vs H Qd Q hR r h k => by
  unfold dFold at h
  split at h
  · split at h
    · rename_i xs e
      split at h
      · rename_i ns e2
        cases r with
        | cons r1 r2 =>
          cases r2
          obtain ⟨a, us, rfl, h1, r1, _⟩ := lst_of hR r1 e
          rw [selB_of e2] at r1
          rw [bl_vs r1] at h1
          exact ⟨a, ns, rfl, h1, k _ C _ H ad h hR .refl rw_bl⟩
      · exact h.elim
    · exact h.elim
  · exact h.elim⟩
instance : LowA K (rAny K) (dFold selB fun ns => .bl (ns.any id)) := ⟨fun ws C ad vs H Qd Q hR r h k => by
  unfold dFold at h
  split at h
  · split at h
    · rename_i xs e
      split at h
      · rename_i ns e2
        cases r with
        | cons r1 r2 =>
          cases r2
          obtain ⟨a, us, rfl, h1, r1, _⟩ := lst_of hR r1 e
          rw [selB_of e2] at r1
          rw [bl_vs r1] at h1
          exact ⟨a, ns, rfl, h1, k _ C _ H ad h hR .refl rw_bl⟩
      · exact h.elim
    · exact h.elim
  · exact h.elim⟩
/-! ## x in row, of flat things -/
def toV : Dt → Option V
  | .non => some .non
  | .bl b => some (.bl b)
  | .int i => some (.int i)
  | .str z => some (.str (tx z))
  | _ => none
def toVs : List W → Option (List V)
  | [] => some []
  | .d x :: ws => match toV x, toVs ws with
    | some v, some vs => some (v :: vs)
    | _, _ => none
  | .o _ :: _ => none
theorem toV_at {L : Hp} {ad : List Addr} {v u : V} {x : Dt} (r : RepW K L ad v (.d x)) (h : toV x = some u) : v = u ∧ flatV u = true := by
  cases x with
  | non => cases h; exact ⟨non_at r, rfl⟩
  | bl b => cases h; exact ⟨bl_at r, rfl⟩
  | int i => cases h; exact ⟨int_at r, rfl⟩
  | str z => cases h; exact ⟨(str_at r).1, rfl⟩
  | _ => cases h
theorem toVs_at {L : Hp} {ad : List Addr} : ∀ {ws : List W} {vs us : List V}, RepWs K L ad vs ws → toVs ws = some us → vs = us ∧ us.all flatV = true
  | [], vs, us, r, h => by cases h; cases r; exact ⟨rfl, rfl⟩
  | .d x :: ws, vs, us, r, h => by
    dsimp only [toVs] at h
    split at h
    · rename_i v vs' e1 e2
      cases h
      cases r with
      | cons r1 r2 =>
        obtain ⟨h1, h2⟩ := toV_at r1 e1
        obtain ⟨h3, h4⟩ := toVs_at r2 e2
        exact ⟨by rw [h1, h3], by rw [List.all_cons, h2, h4]; rfl⟩
    · cases h
  | .o _ :: _, _, _, _, h => nomatch h
def dIn (neg : Bool) : RD2 := fun x y C Q => match x, rowW C y with
  | .d a, some ws => match toV a, toVs ws with
    | some v, some vs => Q (.d (.bl (if neg then !inV v vs else inV v vs))) C
    | _, _ => False
  | _, _ => False
instance {neg : Bool} : Low2 K (rIn K neg) (dIn neg) := ⟨fun x y C ad v u H Qd Q hR rx ry h k => by
  unfold dIn at h
  split at h
  · rename_i a ws e
    split at h
    · rename_i z vs e1 e2
      obtain ⟨p, xs, rfl, hr, hx⟩ := row_of' hR ry e
      obtain ⟨h1, h2⟩ := toV_at rx e1
      obtain ⟨h3, h4⟩ := toVs_at hx e2
      subst h1 h3
      exact ⟨p, xs, rfl, hr, h2, h4, k _ C _ H ad h hR .refl rw_bl⟩
    · exact h.elim
  · exact h.elim⟩
/-! ## methods of texts -/
def isT : W → Bool
  | .d (.str _) => true
  | _ => false
theorem isT_at {L : Hp} {ad : List Addr} {v : V} {w : W} (r : RepW K L ad v w) (h : isT w = true) : ∃ a, v = .str a := by
  unfold isT at h
  split at h
  · exact ⟨_, (str_at r).1⟩
  · cases h
def dM1 (r : W → List W → Cs → (W → Cs → Prop) → Prop) (o e : TD) : TD := fun ρ C Q => o ρ C fun x C1 => isT x = true ∧ e ρ C1 fun y C2 => r x [y] C2 Q
instance {r : V → List V → Hp → VK → Prop} {rd : W → List W → Cs → (W → Cs → Prop) → Prop} {t u : TE} {d e : TD} [l : LowM K r rd] [o : SimE K t d] [a : SimE K u e] : SimE K (tM1 r t u) (dM1 rd d e) := ⟨fun ρ C ad σ H Qd Q hR sR h k =>
  o.run ρ C ad σ H _ _ hR sR h fun x C1 v H1 ad1 q1 hR1 g1 r1 => ⟨isT_at r1 q1.1, a.run ρ C1 ad1 σ H1 _ _ hR1 (sR.grw g1) q1.2 fun y C2 u H2 ad2 q2 hR2 g2 r2 => l.run x [y] C2 ad2 v [u] H2 _ _ hR2 (r1.grw g2) (.cons r2 .nil) q2 (k.grw (g1.trans g2))⟩⟩
def selT : List W → Option (List (List Nat))
  | [] => some []
  | .d (.str z) :: ws => (selT ws).map (z :: ·)
  | _ :: _ => none
theorem selT_of : ∀ {ws : List W} {ns : List (List Nat)}, selT ws = some ns → ws = ns.map fun i => W.d (.str i)
  | [], ns, h => by cases h; rfl
  | .d (.str i) :: ws, ns, h => by
    dsimp only [selT] at h
    cases e : selT ws with
    | none => rw [e] at h; cases h
    | some es => rw [e] at h; cases h; rw [selT_of e]; rfl
  | .d .non :: _, _, h => nomatch h
  | .d (.bl _) :: _, _, h => nomatch h
  | .d (.int _) :: _, _, h => nomatch h
  | .d (.lst _) :: _, _, h => nomatch h
  | .d (.tup _) :: _, _, h => nomatch h
  | .d .dic :: _, _, h => nomatch h
  | .o _ :: _, _, h => nomatch h
theorem selT_map (ns : List (List Nat)) : selT (ns.map fun i => W.d (.str i)) = some ns := by
  induction ns with
  | nil => rfl
  | cons n ns ih => show (selT (ns.map fun i => W.d (.str i))).map (n :: ·) = _; rw [ih]; rfl
theorem txt_vs {L : Hp} {ad : List Addr} : ∀ {ns : List (List Nat)} {vs : List V}, RepWs K L ad vs (ns.map fun i => W.d (.str i)) → vs = (ns.map tx).map V.str
  | [], vs, h => by cases h; rfl
  | n :: ns, vs, h => by
    cases h with
    | cons r t => rw [(str_at r).1, txt_vs t]; rfl
/-- texts joined with a text between -/
def glue (a : List Nat) : List (List Nat) → List Nat
  | [] => []
  | [x] => x
  | x :: y :: r => x ++ a ++ glue a (y :: r)
end
end BK
namespace BK
open PySem PySem.Spec PyProof.Rows L2
theorem pe_cL {X : Cx} {e : Expr} {x : Str} (h : PE X e (tC (.str x))) (hl : x.length ≤ 1000000 := by decide +kernel) : PE X e (tStrL x) := ⟨fun pins s σ H Q I q => h.run pins s σ H Q I (q hl)⟩
end BK

namespace BK
open PySem PySem.Spec PyProof.Rows L2
/-! ## places that are written -/
theorem atI_0 {α : Type} {x : α} {xs : List α} : atI (x :: xs) 0 = some x := at_ofA (j := 0) rfl rfl
theorem atI_1 {α : Type} {x y : α} {xs : List α} : atI (x :: y :: xs) 1 = some y := at_ofA (j := 1) rfl rfl
theorem atI_2 {α : Type} {x y z : α} {xs : List α} : atI (x :: y :: z :: xs) 2 = some z := at_ofA (j := 2) rfl rfl
theorem atI_3 {α : Type} {x y z u : α} {xs : List α} : atI (x :: y :: z :: u :: xs) 3 = some u := at_ofA (j := 3) rfl rfl
theorem atI_4 {α : Type} {x y z u v : α} {xs : List α} : atI (x :: y :: z :: u :: v :: xs) 4 = some v := at_ofA (j := 4) rfl rfl
def setI {α : Type} (xs : List α) (z : Int) (w : α) : Option (List α) := (ixN xs.length z).map fun j => xs.set j w
theorem ixN_nat {n j : Nat} (h : j < n) : ixN n (j : Int) = some j := by
  unfold ixN
  rw [if_pos (by omega), if_pos (by omega)]
  simp
theorem setI_0 {α : Type} {x w : α} {xs : List α} : setI (x :: xs) 0 w = some (w :: xs) := by
  unfold setI
  rw [show (0 : Int) = ((0 : Nat) : Int) from rfl, ixN_nat (by simp)]
  rfl
theorem setI_1 {α : Type} {x y w : α} {xs : List α} : setI (x :: y :: xs) 1 w = some (x :: w :: xs) := by
  unfold setI
  rw [show (1 : Int) = ((1 : Nat) : Int) from rfl, ixN_nat (by simp)]
  rfl
theorem setI_2 {α : Type} {x y z w : α} {xs : List α} : setI (x :: y :: z :: xs) 2 w = some (x :: y :: w :: xs) := by
  unfold setI
  rw [show (2 : Int) = ((2 : Nat) : Int) from rfl, ixN_nat (by simp)]
  rfl
theorem setI_3 {α : Type} {x y z u w : α} {xs : List α} : setI (x :: y :: z :: u :: xs) 3 w = some (x :: y :: z :: w :: xs) := by
  unfold setI
  rw [show (3 : Int) = ((3 : Nat) : Int) from rfl, ixN_nat (by simp)]
  rfl
section
variable {K : PySem.W.Frag}
def dgSub (o i : TD) : TDG := fun w ρ C Q => o ρ C fun x C1 => i ρ C1 fun y C2 => match x, y with
  | .o k, .d (.int z) => match C2[k]? with
    | some (.lst xs) => match setI xs z w with
      | some ys => Q ρ (C2.set k (.lst ys))
      | none => False
    | _ => False
  | _, _ => False
theorem prd_set {α β : Type} {R : α → β → Prop} {xs : List α} {ys : List β} (h : Paired R xs ys) {x : α} {y : β} (r : R x y) : ∀ j, Paired R (xs.set j x) (ys.set j y) := by
  induction h with
  | nil => intro j; exact .nil
  | cons r0 t ih =>
    intro j
    cases j with
    | zero => exact .cons r t
    | succ j => exact .cons r0 (ih j)
instance {to ti : TE} {d e : TD} [a : SimE K to d] [b : SimE K ti e] : SimG K (gSub to ti rSetL) (dgSub d e) := ⟨fun v w ρ C ad σ H Qd Q hR sR r h k => a.run ρ C ad σ H _ _ hR sR h fun x C1 o H1 ad1 q1 hR1 g1 r1 => b.run ρ C1 ad1 σ H1 _ _ hR1 (sR.grw g1) q1 fun y C2 i H2 ad2 q2 hR2 g2 r2 => by
  split at q2
  · rename_i j z
    split at q2
    · rename_i xs hc
      split at q2
      · rename_i ys e1
        obtain ⟨p, us, rfl, h1, rv, hp⟩ := own_of hR2 (r1.grw g2) hc
        unfold setI at e1
        cases e2 : ixN xs.length z with
        | none => rw [e2] at e1; cases e1
        | some n =>
          rw [e2] at e1
          cases e1
          have g12 := g1.trans g2
          obtain ⟨hR3, g3⟩ := set_own hR2 hp hc (prd_set rv (r.grw g12) n)
          exact ⟨p, us, z, n, rfl, int_at r2, h1, by rw [prd_len rv]; exact e2, k _ _ _ _ ad2 q2 hR3 (g12.trans g3) (sR.grw (g12.trans g3))⟩
      · exact q2.elim
    · exact q2.elim
  · exact q2.elim⟩
/-- del x[a:] -/
def dDel (o : TD) (l : TDO) : TDS := fun D ρ C => o ρ C fun x C1 => l ρ C1 fun lo C2 => match x with
  | .o k => match C2[k]? with
    | some (.lst xs) => D.nx ρ (C2.set k (.lst (xs.take (HT.sIx xs.length 0 lo))))
    | _ => False
  | _ => False
instance {to : TE} {tl : TO} {d : TD} {e : TDO} [a : SimE K to d] [b : SimO K tl e] : SimS K (tDelS to tl) (dDel d e) := ⟨fun ρ C ad σ H DD D hR sR h k => a.run ρ C ad σ H _ _ hR sR h fun x C1 v H1 ad1 q1 hR1 g1 r1 => b.run ρ C1 ad1 σ H1 _ _ hR1 (sR.grw g1) q1 fun lo C2 H2 ad2 q2 hR2 g2 => by
  split at q2
  · rename_i j
    split at q2
    · rename_i xs hc
      obtain ⟨p, us, rfl, h1, rv, hp⟩ := own_of hR2 (r1.grw g2) hc
      have g12 := g1.trans g2
      obtain ⟨hR3, g3⟩ := set_own hR2 hp hc (prd_take2 rv (HT.sIx xs.length 0 lo))
      exact ⟨p, us, rfl, h1, by rw [prd_len rv]; exact k.nx _ _ _ _ ad2 q2 hR3 (g12.trans g3) (sR.grw (g12.trans g3))⟩
    · exact q2.elim
  · exact q2.elim⟩
end
theorem set_at {C : Cs} {b : Nat} {c x : Cell} (h : C[b]? = some c) : (C.set b x)[b]? = some x := by
  rw [getE_set, if_pos rfl, if_pos (List.getElem?_eq_some_iff.mp h).1]
theorem set_off {C : Cs} {b j : Nat} {x : Cell} (h : b ≠ j) : (C.set b x)[j]? = C[j]? := by rw [getE_set, if_neg h]
theorem app_at {C : Cs} {j : Nat} {c : Cell} {ex : Cs} (h : C[j]? = some c) : (C ++ ex)[j]? = some c := by
  rw [List.getElem?_append_left (List.getElem?_eq_some_iff.mp h).1]
  exact h
theorem last_at {C : Cs} {c : Cell} : (C ++ [c])[C.length]? = some c := List.getElem?_concat_length
theorem lt_at {C : Cs} {j : Nat} {c : Cell} (h : C[j]? = some c) : j < C.length := (List.getElem?_eq_some_iff.mp h).1
/-! ## cells but one stay -/
/-- all cells but b are as they were -/
structure But (b : Nat) (C C' : Cs) : Prop where
  keep : ∀ (j : Nat) c, j ≠ b → C[j]? = some c → C'[j]? = some c
  len : C.length ≤ C'.length
theorem But.refl {b : Nat} {C : Cs} : But b C C := ⟨fun _ _ _ h => h, Nat.le_refl _⟩
theorem But.trans {b : Nat} {C C1 C2 : Cs} (a : But b C C1) (c : But b C1 C2) : But b C C2 := ⟨fun j x n h => c.keep j x n (a.keep j x n h), Nat.le_trans a.len c.len⟩
theorem But.set {b : Nat} {C C' : Cs} (h : But b C C') (x : Cell) : But b C (C'.set b x) := ⟨fun j c n hj => by rw [set_off (Ne.symm n)]; exact h.keep j c n hj, by rw [List.length_set]; exact h.len⟩
theorem But.new {b : Nat} {C C' : Cs} (h : But b C C') (ex : Cs) : But b C (C' ++ ex) := ⟨fun j c n hj => app_at (h.keep j c n hj), by rw [List.length_append]; have := h.len; omega⟩
theorem But.mut {b : Nat} {C C' : Cs} (h : But b C C') {j : Nat} (hj : C.length ≤ j) (x : Cell) : But b C (C'.set j x) := ⟨fun i c n hi => by rw [set_off (by have := lt_at hi; omega)]; exact h.keep i c n hi, by rw [List.length_set]; exact h.len⟩
theorem But.kp {b : Nat} {C C' : Cs} (h : But b C C') {x : Cell} (hb : C'[b]? = some x) (hx : Clo C.length x) : Kp C (C'.take C.length) := by
  refine ⟨by rw [List.length_take]; have := h.len; omega, fun i c hi => ?_⟩
  have lt := lt_at hi
  rw [List.length_take] at lt
  rw [List.getElem?_take_of_lt (by omega)] at hi
  by_cases e : i = b
  · subst e
    rw [hb] at hi
    cases hi
    exact .inr hx
  · left
    have lt2 : i < C.length := by omega
    have e1 := h.keep i _ e (List.getElem?_eq_getElem lt2)
    rw [hi] at e1
    cases e1
    exact List.getElem?_eq_getElem lt2
theorem take_at {C : Cs} {n j : Nat} (h : j < n) : (C.take n)[j]? = C[j]? := List.getElem?_take_of_lt h
theorem But.take {b : Nat} {C C' : Cs} (h : But b C C') : But b C (C'.take C.length) := ⟨fun j c n hj => by rw [take_at (lt_at hj)]; exact h.keep j c n hj, by rw [List.length_take]; have := h.len; omega⟩
theorem ret.but {b : Nat} {C C' : Cs} {x : Dt} {c : Cell} {Q : W → Cs → Prop} (h : But b C C') (hb : C'[b]? = some c) (hx : Clo C.length c) (q : Q (.d x) (C'.take C.length)) : ret C Q (.d x) C' :=
  .inr (.inl ⟨x, C'.take C.length, C'.drop C.length, rfl, (List.take_append_drop _ _).symm, h.kp hb hx, q⟩)
theorem ret.butL {b j : Nat} {C C' : Cs} {ds : List Dt} {c : Cell} {Q : W → Cs → Prop} (h : But b C C') (hb : C'[b]? = some c) (hx : Clo C.length c) (hj : C.length ≤ j) (hc : C'[j]? = some (.lst (ds.map W.d))) (q : Q (.d (.lst ds)) (C'.take C.length)) : ret C Q (.o j) C' :=
  .inr (.inr ⟨j, _, ds, C'.take C.length, C'.drop C.length, rfl, hc, allD_map ds, hj, (List.take_append_drop _ _).symm, h.kp hb hx, .inl q⟩)
theorem ret.butO {b j : Nat} {C C' : Cs} {ds : List Dt} {c : Cell} {Q : W → Cs → Prop} (h : But b C C') (hb : C'[b]? = some c) (hx : Clo C.length c) (hj : C.length ≤ j) (hc : C'[j]? = some (.lst (ds.map W.d))) (q : Q (.o C.length) (C'.take C.length ++ [.lst (ds.map W.d)])) : ret C Q (.o j) C' :=
  .inr (.inr ⟨j, _, ds, C'.take C.length, C'.drop C.length, rfl, hc, allD_map ds, hj, (List.take_append_drop _ _).symm, h.kp hb hx, .inr q⟩)
end BK

namespace BK
open PySem PySem.Spec PyProof.Rows L2
section
variable {K : PySem.W.Frag}
/-! ## parts of texts are no longer -/
theorem spl_len {S : List Nat} : ∀ (l : List Nat) (k : Nat) (acc : List Nat), ∀ z ∈ TL.spl S k acc l, z.length ≤ acc.length + l.length
  | [], k, acc, z, h => by
    rw [TL.spl_nil] at h
    rw [List.mem_singleton.mp h]
    simp
  | c :: r, 0, acc, z, h => by
    cases e : TL.pre S (c :: r) with
    | true =>
      rw [TL.spl_hit e] at h
      rcases List.mem_cons.mp h with rfl | h
      · simp
      · have := spl_len r _ [] z h
        simp at this ⊢
        omega
    | false =>
      rw [TL.spl_miss e] at h
      have := spl_len r 0 _ z h
      simp at this ⊢
      omega
  | c :: r, k + 1, acc, z, h => by
    have := spl_len r k acc z h
    simp at this ⊢
    omega
theorem par_len {S : List Nat} : ∀ (l acc : List Nat) {x y : List Nat}, TL.par S acc l = some (x, y) → x.length ≤ acc.length + l.length ∧ y.length ≤ l.length
  | [], acc, x, y, h => by cases h
  | c :: r, acc, x, y, h => by
    cases e : TL.pre S (c :: r) with
    | true =>
      rw [TL.par_hit e] at h
      cases h
      exact ⟨by simp, by rw [List.length_drop]; omega⟩
    | false =>
      rw [TL.par_miss e] at h
      have := par_len r _ h
      simp at this ⊢
      omega
/-! ## texts joined, cut, split -/
theorem joinL_nil : ∀ zs : List (List Nat), TL.joinL [] zs = zs.flatten
  | [] => rfl
  | [p] => by simp [TL.joinL]
  | p :: q :: r => by
    show p ++ ([] ++ TL.joinL [] (q :: r)) = _
    rw [joinL_nil (q :: r), List.nil_append, List.flatten_cons, List.flatten_cons, List.flatten_cons]
theorem join_txs (a : List Nat) (zs : List (List Nat)) : Txt.join (tx a) (zs.map tx) = tx (TL.joinL a zs) := by
  refine TL.ext_tl ?_
  rw [TL.join_eq, TL.tl_join, List.map_map]
  have e : (TL.tl ∘ tx) = id := funext fun z => tx_cps z
  rw [e, List.map_id, show TL.tl (tx a) = a from tx_cps a, show TL.tl (tx (TL.joinL a zs)) = _ from tx_cps _]
def dJoin : W → List W → Cs → (W → Cs → Prop) → Prop := fun x ws C Q => match x, ws with
  | .d (.str a), [w] => match rowW C w with
    | some xs => match selT xs with
      | some zs => (zs.map (·.length)).sum + zs.length * a.length ≤ 16777216 ∧ (TL.joinL a zs).length ≤ 1000000 ∧ Q (.d (.str (TL.joinL a zs))) C
      | none => False
    | none => False
  | _, _ => False
instance : LowM K (rJoin K) dJoin := ⟨fun x ws C ad v vs H Qd Q hR rx r h k => by
  unfold dJoin at h
  split at h
  · rename_i a w
    split at h
    · rename_i xs e
      split at h
      · rename_i zs e2
        obtain ⟨rfl, _⟩ := str_at rx
        cases r with
        | cons r1 r2 =>
          cases r2
          obtain ⟨p, us, rfl, hr, hx⟩ := row_of' hR r1 e
          rw [selT_of e2] at hx
          rw [txt_vs hx] at hr
          refine ⟨tx a, p, zs.map tx, rfl, rfl, hr, ?_, ?_⟩
          · rw [List.map_map, List.length_map, tx_len, show (Str.length ∘ tx) = List.length from funext tx_len]
            exact h.1
          · rw [join_txs]
            exact k _ C _ H ad h.2.2 hR .refl (rw_str h.2.1)
      · exact h.elim
    · exact h.elim
  · exact h.elim⟩
def partW (b a : List Nat) : Dt := match TL.par b [] a with
  | some (l, r) => .tup [.str l, .str b, .str r]
  | none => .tup [.str a, .str [], .str []]
def dPartn : W → List W → Cs → (W → Cs → Prop) → Prop := fun x ws C Q => match x, ws with
  | .d (.str a), [.d (.str b)] => b ≠ [] ∧ Q (.d (partW b a)) C
  | _, _ => False
instance : LowM K rPart dPartn := ⟨fun x ws C ad v vs H Qd Q hR rx r h k => by
  unfold dPartn at h
  split at h
  · rename_i a b
    obtain ⟨hb0, h⟩ := h
    obtain ⟨rfl, la⟩ := str_at rx
    cases r with
    | cons r1 r2 =>
      cases r2
      obtain ⟨rfl, lb⟩ := str_at r1
      have hb : TL.tl (tx b) ≠ [] := by rw [show TL.tl (tx b) = b from tx_cps _]; exact hb0
      have e := TL.partition_par (tx a) (tx b) hb
      rw [show TL.tl (tx b) = b from tx_cps _, show TL.tl (tx a) = a from tx_cps _] at e
      refine ⟨tx a, tx b, rfl, rfl, ?_, by rw [tx_len]; exact Nat.le_trans la (by decide), fun p np => ?_⟩
      · rw [tx_len]
        cases b with
        | nil => exact absurd rfl hb0
        | cons _ _ => rfl
      · refine k _ C _ _ ad h (hR.same (same_upd np)) (grw_same (same_upd np)) ?_
        unfold partW
        cases e2 : TL.par b [] a with
        | some lr =>
          obtain ⟨l, r⟩ := lr
          rw [e2] at e
          rw [e]
          have pl := par_len a [] e2
          exact put_tup hR np (.cons (rw_str (by simp at pl; omega)) (.cons (rw_str lb) (.cons (rw_str (by omega)) .nil)))
        | none =>
          rw [e2] at e
          rw [e]
          exact put_tup hR np (.cons (rw_str la) (.cons (rw_str (z := []) (by simp)) (.cons (rw_str (z := []) (by simp)) .nil)))
  · exact h.elim⟩
def dSplit : W → List W → Cs → (W → Cs → Prop) → Prop := fun x ws C Q => match x, ws with
  | .d (.str a), [.d (.str b)] => (b ≠ [] ∧ ∀ c ∈ b, c < 256) ∧ newL ((TL.spl b 0 [] a).map fun z => W.d (.str z)) C Q
  | _, _ => False
theorem strs_rep {L : Hp} {ad : List Addr} : ∀ {zs : List (List Nat)}, (∀ z ∈ zs, z.length ≤ 1000000) → RepWs K L ad ((zs.map tx).map V.str) (zs.map fun z => W.d (.str z))
  | [], _ => .nil
  | z :: zs, h => .cons (rw_str (h z (List.mem_cons_self ..))) (strs_rep fun y hy => h y (List.mem_cons_of_mem _ hy))
instance : LowM K rSplit dSplit := ⟨fun x ws C ad v vs H Qd Q hR rx r h k => by
  unfold dSplit at h
  split at h
  · rename_i a b
    obtain ⟨⟨hb, hk⟩, h⟩ := h
    obtain ⟨rfl, la⟩ := str_at rx
    have hz : ∀ z ∈ TL.spl b 0 [] a, z.length ≤ 1000000 := fun z m => by have := spl_len a 0 [] z m; simp at this; omega
    cases r with
    | cons r1 r2 =>
      cases r2
      obtain ⟨rfl, lb⟩ := str_at r1
      have e := TL.split_spl (tx a) (tx b) (by rw [show TL.tl (tx b) = b from tx_cps _]; exact hb) (TL.kind_ok (by
        unfold tx
        rw [List.all_toArray]
        exact List.all_eq_true.mpr fun c hc => decide_eq_true (hk c hc)))
      rw [show TL.tl (tx b) = b from tx_cps _, show TL.tl (tx a) = a from tx_cps _] at e
      have e2 : Txt.split (tx a) (tx b) = (TL.spl b 0 [] a).map tx := TL.map_tl_inj (by
        rw [e, List.map_map, show (TL.tl ∘ tx) = id from funext fun z => tx_cps z, List.map_id])
      refine ⟨tx a, tx b, rfl, rfl, ?_, by rw [tx_len]; exact Nat.le_trans (Nat.add_le_add_right la 2) (by decide), fun p np => ?_⟩
      · rw [tx_len]
        cases b with
        | nil => exact absurd rfl hb
        | cons _ _ => rfl
      · rw [e2]
        exact newL_run hR (strs_rep hz) h k p np
  · exact h.elim⟩
/-- what is left when signs are stripped from both ends -/
def strp (a b : List Nat) : List Nat := cd (Txt.stripChars (tx a) (tx b))
theorem strp_nil {a b : List Nat} : strp a b = [] ↔ a.all (b.contains ·) = true := by
  rw [← strip_iff]
  unfold strp
  constructor
  · intro h
    rw [← h, tx_cd]
  · intro h
    rw [h]
    rfl
theorem strp_len {a b : List Nat} : (strp a b).length ≤ a.length := by
  have h : (Txt.stripChars (tx a) (tx b)).length ≤ (tx a).length := by
    unfold Txt.stripChars Txt.stripBy
    split
    · exact Nat.le_refl _
    · exact le_strSub _ _ _
  rw [tx_len] at h
  exact h
def dStrip : W → List W → Cs → (W → Cs → Prop) → Prop := fun x ws C Q => match x, ws with
  | .d (.str a), [.d (.str b)] => Q (.d (.str (strp a b))) C
  | _, _ => False
instance : LowM K rStrip dStrip := ⟨fun x ws C ad v vs H Qd Q hR rx r h k => by
  unfold dStrip at h
  split at h
  · rename_i a b
    obtain ⟨rfl, la⟩ := str_at rx
    cases r with
    | cons r1 r2 =>
      cases r2
      obtain ⟨rfl, lb⟩ := str_at r1
      refine ⟨tx a, tx b, rfl, rfl, by rw [tx_len]; exact Nat.le_trans la (by decide), ?_⟩
      rw [← tx_cd (Txt.stripChars (tx a) (tx b))]
      exact k _ C _ H ad h hR .refl (rw_str (Nat.le_trans strp_len la))
  · exact h.elim⟩
/-- int(text) -/
def rIntT : List V → Hp → VK → Prop := fun xs H Q => ∃ a n, xs = [.str a] ∧ PySem.intText? a = some n ∧ a.length ≤ 640 ∧ Q (.int n) H
theorem q_intT {X : Cx} : CallR X (.type "int") rIntT := call_int_str
def dIntT : List W → Cs → (W → Cs → Prop) → Prop := fun ws C Q => match ws with
  | [.d (.str z)] => ∃ n, PySem.intText? (tx z) = some n ∧ z.length ≤ 640 ∧ Q (.d (.int n)) C
  | _ => False
instance : LowA K rIntT dIntT := ⟨fun ws C ad vs H Qd Q hR r h k => by
  unfold dIntT at h
  split at h
  · rename_i z
    cases r with
    | cons r1 r2 =>
      cases r2
      obtain ⟨rfl, la⟩ := str_at r1
      obtain ⟨n, h1, h2, h3⟩ := h
      exact ⟨tx z, n, rfl, h1, by rw [tx_len]; exact h2, k _ C _ H ad h3 hR .refl rw_int⟩
  · exact h.elim⟩
/-! ## f'..' -/
def tJoined (ts : List TE) : TE := fun σ H Q => tJs ts Str.empty σ H fun out H1 => Q (.str out) H1
theorem pe_joinedK {X : Cx} {v1 v2 : Expr} {rest : List Expr} {ts : List TE} {pos : Pos} (h : PJ X (v1 :: v2 :: rest) ts) : PE X (.JoinedStr (v1 :: v2 :: rest) pos) (tJoined ts) := pe_joined h
class SimJ (K : PySem.W.Frag) (ts : List TE) (ds : outParam (List TD)) : Prop where
  all : Paired (fun t d => SimE K t d) ts ds
instance : SimJ K [] [] := ⟨.nil⟩
instance {t : TE} {ts : List TE} {d : TD} {ds : List TD} [a : SimE K t d] [b : SimJ K ts ds] : SimJ K (t :: ts) (d :: ds) := ⟨.cons a b.all⟩
def dJs : List TD → List Nat → TD
  | [], acc => fun _ C Q => Q (.d (.str acc)) C
  | t :: ts, acc => fun ρ C Q => t ρ C fun w C1 => match w with
    | .d (.str y) => (acc ++ y).length ≤ 1000000 ∧ dJs ts (acc ++ y) ρ C1 Q
    | _ => False
theorem tx_append (a b : List Nat) : tx a ++ tx b = tx (a ++ b) := TL.ext_tl (by
  rw [TL.tl_append]
  show (tx a).cps.toList ++ (tx b).cps.toList = (tx (a ++ b)).cps.toList
  rw [tx_cps, tx_cps, tx_cps])
theorem js_run {σ : L2.St} {ρ : Ws} {Qd : W → Cs → Prop} {Q : VK} : ∀ {ts : List TE} {ds : List TD}, Paired (fun t d => SimE K t d) ts ds → ∀ (acc : List Nat) (C : Cs) (ad : List Addr) (H : Hp), acc.length ≤ 1000000 → HeapR K ad C H → SlotR K (low ad C H) ad σ ρ → dJs ds acc ρ C Qd → ContD K ad C H Qd Q → tJs ts (tx acc) σ H fun out H1 => Q (.str out) H1
  | _, _, .nil, acc, C, ad, H, ha, hR, sR, h, k => k _ C _ H ad h hR .refl (rw_str ha)
  | _, _, .cons r t, acc, C, ad, H, ha, hR, sR, h, k => by
    refine r.run ρ C ad σ H _ _ hR sR h fun w C1 v H1 ad1 q1 hR1 g1 r1 => ?_
    split at q1
    · rename_i y
      obtain ⟨rfl, ly⟩ := str_at r1
      refine ⟨tx y, rfl, ?_, ?_⟩
      · rw [tx_append, tx_len]
        exact Nat.le_trans q1.1 (by decide)
      · rw [tx_append]
        exact js_run t (acc ++ y) C1 ad1 H1 q1.1 hR1 (sR.grw g1) q1.2 (k.grw g1)
    · exact q1.elim
instance {ts : List TE} {ds : List TD} [a : SimJ K ts ds] : SimE K (tJoined ts) (dJs ds []) := ⟨fun ρ C ad σ H Qd Q hR sR h k => js_run a.all [] C ad H (Nat.zero_le _) hR sR h k⟩
def dFmt (e : TD) : TD := fun ρ C Q => e ρ C fun w C1 => match w with
  | .d (.str z) => Q (.d (.str z)) C1
  | .d (.int i) => i.natAbs < 10 ^ 47 ∧ Q (.d (.str (figs i))) C1
  | _ => False
instance {t : TE} {d : TD} [a : SimE K t d] : SimE K (tFmt t) (dFmt d) := ⟨fun ρ C ad σ H Qd Q hR sR h k => a.run ρ C ad σ H _ _ hR sR h fun w C1 v H1 ad1 q1 hR1 g1 r1 => by
  split at q1
  · rename_i z
    obtain ⟨e, l⟩ := str_at r1
    refine .inl ⟨tx z, e, by rw [tx_len]; exact Nat.le_trans l (by decide), ?_⟩
    rw [← e]
    exact k _ C1 _ H1 ad1 q1 hR1 g1 r1
  · rename_i i
    refine .inr ⟨i, int_at r1, int_log q1.1, ?_⟩
    rw [show (toString i : Str) = tx (figs i) from (tx_cd _).symm]
    exact k _ C1 _ H1 ad1 q1.2 hR1 g1 (rw_str (Nat.le_trans (figs_len q1.1) (by decide)))
  · exact q1.elim⟩
end
/-! ## things compared, deep -/
mutual
/-- no truth and no dict within, no strange sign -/
def Pln : Dt → Bool
  | .non => true
  | .bl _ => false
  | .int _ => true
  | .str w => w.all (· < 1114112)
  | .lst ds => Plns ds
  | .tup ds => Plns ds
  | .dic => false
def Plns : List Dt → Bool
  | [] => true
  | d :: ds => Pln d && Plns ds
end
theorem plns_of {ds : List Dt} (h : ∀ d ∈ ds, Pln d = true) : Plns ds = true := by
  induction ds with
  | nil => unfold Plns; rfl
  | cons d ds ih => unfold Plns; rw [h d (List.mem_cons_self ..), ih fun x hx => h x (List.mem_cons_of_mem _ hx)]; rfl
mutual
theorem eqv_pln : ∀ (d e : Dt), Pln d = true → Pln e = true → (PyData.eqv d.py e.py = true ↔ d = e)
  | .non, e, h, k => by cases e <;> simp_all [Dt.py, PyData.eqv, Pln]
  | .bl _, e, h, k => by unfold Pln at h; cases h
  | .int i, e, h, k => by cases e <;> simp_all [Dt.py, PyData.eqv, Pln]
  | .str w, e, h, k => by
    cases e <;> simp_all [Dt.py, PyData.eqv, Pln]
    exact ⟨fun z => tx_inj z, fun z => by rw [z]⟩
  | .lst ds, e, h, k => by
    cases e with
    | lst es =>
      unfold Pln at h k
      have := eqvs_pln ds es h k
      simp only [Dt.py, PyData.eqv, Dt.lst.injEq]
      exact this
    | _ => simp_all [Dt.py, PyData.eqv, Pln]
  | .tup ds, e, h, k => by
    cases e with
    | tup es =>
      unfold Pln at h k
      have := eqvs_pln ds es h k
      simp only [Dt.py, PyData.eqv, Dt.tup.injEq]
      exact this
    | _ => simp_all [Dt.py, PyData.eqv, Pln]
  | .dic, e, h, k => by unfold Pln at h; cases h
theorem eqvs_pln : ∀ (ds es : List Dt), Plns ds = true → Plns es = true → (PyData.eqvAll (pyAll ds) (pyAll es) = true ↔ ds = es)
  | [], [], _, _ => by simp [pyAll, PyData.eqvAll]
  | [], _ :: _, _, _ => by simp [pyAll, PyData.eqvAll]
  | _ :: _, [], _, _ => by simp [pyAll, PyData.eqvAll]
  | d :: ds, e :: es, h, k => by
    unfold Plns at h k
    rw [Bool.and_eq_true] at h k
    have h1 := eqv_pln d e h.1 k.1
    have h2 := eqvs_pln ds es h.2 k.2
    simp only [pyAll, PyData.eqvAll, Bool.and_eq_true, h1, h2, List.cons.injEq]
end
mutual
theorem pln_lay : ∀ d : Dt, Pln d = true → d.py.canLay0 = true
  | .non, _ => by simp only [Dt.py, PyData.canLay0]
  | .bl _, h => by unfold Pln at h; cases h
  | .int _, _ => by simp only [Dt.py, PyData.canLay0]
  | .str w, h => by
    unfold Pln at h
    simp only [Dt.py, PyData.canLay0]
    show (tx w).cps.all (· < 1114112) = true
    unfold tx
    rw [List.all_toArray]
    exact h
  | .lst ds, h => by unfold Pln at h; simp only [Dt.py, PyData.canLay0]; exact plns_lay ds h
  | .tup ds, h => by unfold Pln at h; simp only [Dt.py, PyData.canLay0]; exact plns_lay ds h
  | .dic, h => by unfold Pln at h; cases h
theorem plns_lay : ∀ ds : List Dt, Plns ds = true → PyData.canLayAll0 (pyAll ds) = true
  | [], _ => by simp only [pyAll, PyData.canLayAll0]
  | d :: ds, h => by
    unfold Plns at h
    rw [Bool.and_eq_true] at h
    simp only [pyAll, PyData.canLayAll0, pln_lay d h.1, plns_lay ds h.2, Bool.and_self]
end
theorem pln_shaped {d : Dt} (h : Pln d = true) (hd : deep d ≤ 64) : SeqAt.shaped d.py = true := by
  show (d.py.canLay0 && decide (d.py.depth ≤ 64)) = true
  rw [pln_lay d h, depth_py, decide_eq_true hd]
  rfl
mutual
theorem at_dp {K : PySem.W.Frag} {H : Hp} : ∀ (d : Dt) (v : V), Pln d = true → At K H v d → Dp K H v d.py
  | .non, v, h, r => by unfold At at r; subst r; simp only [Dt.py]; exact .non
  | .bl _, v, h, r => by unfold Pln at h; cases h
  | .int i, v, h, r => by unfold At at r; subst r; simp only [Dt.py]; exact .int i
  | .str w, v, h, r => by unfold At at r; obtain ⟨rfl, _⟩ := r; simp only [Dt.py]; exact .str _
  | .lst ds, v, h, r => by
    unfold Pln at h
    unfold At at r
    obtain ⟨a, xs, rfl, h1, h2⟩ := r
    simp only [Dt.py]
    exact .lst h1 (ats_dp ds xs h h2)
  | .tup ds, v, h, r => by
    unfold Pln at h
    unfold At at r
    obtain ⟨a, xs, rfl, h1, h2⟩ := r
    simp only [Dt.py]
    exact .tup h1 (ats_dp ds xs h h2)
  | .dic, v, h, r => by unfold Pln at h; cases h
theorem ats_dp {K : PySem.W.Frag} {H : Hp} : ∀ (ds : List Dt) (vs : List V), Plns ds = true → Ats K H vs ds → DpAll K H vs (pyAll ds)
  | [], vs, h, r => by unfold Ats at r; subst r; simp only [pyAll]; exact .nil
  | d :: ds, vs, h, r => by
    unfold Plns at h
    rw [Bool.and_eq_true] at h
    unfold Ats at r
    obtain ⟨v, us, rfl, h1, h2⟩ := r
    simp only [pyAll]
    exact .cons (at_dp d v h.1 h1) (ats_dp ds us h.2 h2)
end
theorem eqv_dec (d e : Dt) (h : Pln d = true) (k : Pln e = true) [Decidable (d = e)] : PyData.eqv d.py e.py = decide (d = e) := by
  rw [Bool.eq_iff_iff, eqv_pln d e h k, decide_eq_true_iff]
/-- x == y, deep -/
def dEqD : RD2 := fun x y C Q => ∃ a b, rds C x a ∧ rds C y b ∧ (Pln a = true ∧ deep a ≤ 64 ∧ Pln b = true ∧ deep b ≤ 64) ∧ ∀ c : Bool, (c = true ↔ a = b) → Q (.d (.bl c)) C
def dNeD : RD2 := fun x y C Q => ∃ a b, rds C x a ∧ rds C y b ∧ (Pln a = true ∧ deep a ≤ 64 ∧ Pln b = true ∧ deep b ≤ 64) ∧ ∀ c : Bool, (c = true ↔ a = b) → Q (.d (.bl (!c))) C
section
variable {K : PySem.W.Frag}
theorem q_eqD (K : PySem.W.Frag) {X : Cx} (hu : X.A.units + 64 < cLine) (hK : X.K = K := by rfl) : OpR X (compareOp .Eq) (rEqD K) := hK ▸ op_eqD hu
theorem q_neD (K : PySem.W.Frag) {X : Cx} (hu : X.A.units + 64 < cLine) (hK : X.K = K := by rfl) : OpR X (compareOp .NotEq) (rNeD K) := hK ▸ op_neD hu
instance : Low2 K (rEqD K) dEqD := ⟨fun x y C ad v u H Qd Q hR rx ry h k => by
  obtain ⟨a, b, ha, hb, ⟨h1, h2, h3, h4⟩, q⟩ := h
  exact ⟨_, _, at_dp a v h1 (rds_at hR a x v rx ha), at_dp b u h3 (rds_at hR b y u ry hb), pln_shaped h1 h2, pln_shaped h3 h4, k _ C _ H ad (q _ (eqv_pln a b h1 h3)) hR .refl rw_bl⟩⟩
instance : Low2 K (rNeD K) dNeD := ⟨fun x y C ad v u H Qd Q hR rx ry h k => by
  obtain ⟨a, b, ha, hb, ⟨h1, h2, h3, h4⟩, q⟩ := h
  exact ⟨_, _, at_dp a v h1 (rds_at hR a x v rx ha), at_dp b u h3 (rds_at hR b y u ry hb), pln_shaped h1 h2, pln_shaped h3 h4, k _ C _ H ad (q _ (eqv_pln a b h1 h3)) hR .refl rw_bl⟩⟩
/-! ## repr -/
theorem q_repr (K : PySem.W.Frag) {X : Cx} (hg : X.A.guards = some []) (hu : X.A.units + 64 < cLine) (hK : X.K = K := by rfl) : CallR X (.builtin "repr") (rRepr K) := hK ▸ call_reprG hg hu
def dRepr : List W → Cs → (W → Cs → Prop) → Prop := fun ws C Q => ∃ w a, ws = [w] ∧ rds C w a ∧ isRow a = true ∧ Neat a ∧ (shw a).length ≤ 1000000 ∧ Q (.d (.str (cd (shw a)))) C
instance : LowA K (rRepr K) dRepr := ⟨fun ws C ad vs H Qd Q hR r h k => by
  obtain ⟨w, a, rfl, ha, hr, hn, hl, q⟩ := h
  cases r with
  | cons r1 r2 =>
    cases r2
    have at1 := rds_at hR a w _ r1 ha
    obtain ⟨p, xs, rfl, _⟩ := at_row at1 hr
    refine ⟨p, a, rfl, at1, hn, ?_⟩
    rw [← tx_cd (shw a)]
    exact k _ C _ H ad q hR .refl (rw_str hl)⟩
end
end BK

namespace BK
open PySem PySem.Spec PyProof.Rows L2
/-- a comprehension of things: what holds of those told so far and of the cells -/
theorem DLc.gen {J : ItD} {g : TDG} {t : TDT} {e : TD} {ρ0 : Ws} {C : Cs} {Q : W → Cs → Prop} (n : Nat) (it : Nat → W) (P : Nat → List Dt → Cs → Prop) (hn : n ≤ 16777216) (h0 : P 0 [] (C ++ [.lst []])) (hJ : ∀ i ds C', i ≤ n → P i ds C' → J i C' (if i < n then some (it i) else none))
    (hs : ∀ i ds C', i < n → P i ds C' → C'[C.length]? = some (.lst (ds.map W.d)) → ∀ (R : W → Cs → Prop) (S : Cs → Prop), (∀ x C2, C2[C.length]? = some (.lst (ds.map W.d)) → P (i + 1) (ds ++ [x]) (C2.set C.length (.lst ((ds ++ [x]).map W.d))) → R (.d x) C2) → (∀ C2, C2[C.length]? = some (.lst (ds.map W.d)) → P (i + 1) ds C2 → S C2) →
      g (it i) ρ0 C' fun ρ2 C2 => t ρ2 C2 fun b C3 => if b = true then e ρ2 C3 R else S C3)
    (hd : ∀ ds C', P n ds C' → C'[C.length]? = some (.lst (ds.map W.d)) → ds.length ≤ n → Q (.o C.length) C') : DLc J g t e ρ0 C C.length Q := by
  refine ⟨fun i m C' => m = n - i ∧ i ≤ n ∧ ∃ ds, P i ds C' ∧ C'[C.length]? = some (.lst (ds.map W.d)) ∧ ds.length ≤ i, ⟨n, rfl, Nat.zero_le _, [], h0, last_at, Nat.le_refl _⟩, ?_⟩
  rintro i m C' ⟨rfl, hi, ds, hp, hc, hl⟩
  have hj := hJ i ds C' hi hp
  by_cases lt : i < n
  · rw [if_pos lt] at hj
    refine .inr ⟨it i, hj, fun C' => ∃ ds, P (i + 1) ds C' ∧ C'[C.length]? = some (.lst (ds.map W.d)) ∧ ds.length ≤ i + 1, fun C' e => ⟨n - (i + 1), by omega, rfl, lt, e⟩, hs i ds C' lt hp hc _ _ (fun x C2 h2 hp2 => ?_) (fun C2 h2 hp2 => ⟨ds, hp2, h2, by omega⟩)⟩
    refine ⟨ds.map W.d, h2, by rw [List.length_map]; omega, ds ++ [x], ?_, ?_, by rw [List.length_append, List.length_singleton]; omega⟩
    · rw [List.map_append] at hp2
      exact hp2
    · rw [set_at h2, List.map_append]
      rfl
  · rw [if_neg lt] at hj
    have en : i = n := by omega
    subst en
    exact .inl ⟨hj, hd ds C' hp hc hl⟩
theorem shw_len {d : Dt} (h : Fits d) (hb : bulk d ≤ 15000) : (shw d).length ≤ 1000000 := by
  have h1 := PyData.shown_le_bulk 48 (by decide) d.py (fits_short d h)
  rw [bulk_py] at h1
  have h2 : (48 + 2) * bulk d ≤ 50 * 15000 := Nat.mul_le_mul (Nat.le_refl _) hb
  unfold shw
  omega
theorem atI_lt {α : Type} {xs : List α} {r : Nat} (h : r < xs.length) : ∃ x, atI xs (r : Int) = some x ∧ x ∈ xs := ⟨xs[r], atI_nat (List.getElem?_eq_getElem h), List.getElem_mem h⟩
end BK
namespace BK
open PySem PySem.Spec PyProof.Rows L2
theorem newL_d {ds : List Dt} {C : Cs} {Q : W → Cs → Prop} (q : Q (.d (.lst ds)) C) : newL (ds.map W.d) C Q := .inr ⟨ds, allD_map ds, q⟩
theorem newL_f {ws : List W} {ds : List Dt} {C : Cs} {Q : W → Cs → Prop} (e : allD ws = some ds) (q : Q (.d (.lst ds)) C) : newL ws C Q := .inr ⟨ds, e, q⟩
theorem newL_o {ws : List W} {C : Cs} {Q : W → Cs → Prop} (q : Q (.o C.length) (C ++ [.lst ws])) : newL ws C Q := .inl q
end BK
namespace BK
open PySem PySem.Spec PyProof.Rows L2
theorem pe_lcK {X : Cx} {e : Expr} {wi : TI} {g : TG} {tt : TT} {te : TE} {us : List Nat} (vs : List Nat) (h : PE X e (tLc wi g tt te us)) (hv : us = vs := by rfl) : PE X e (tLc wi g tt te vs) := hv ▸ h
theorem ps_lcK {X : Cx} {st : Stmt} {wi : TI} {g g2 : TG} {tt : TT} {te : TE} {us : List Nat} (vs : List Nat) (h : PS X st (tAsg (tLc wi g tt te us) g2)) (hv : us = vs := by rfl) : PS X st (tAsg (tLc wi g tt te vs) g2) := hv ▸ h
end BK

namespace BK
open PySem PySem.Spec PyProof.Rows L2
section
variable {K : PySem.W.Frag}
/-- str of a whole number or of a text -/
def rStrA : List V → Hp → VK → Prop := fun xs H Q => (∃ i, xs = [.int i] ∧ i.natAbs.log2 < 1920 ∧ Q (.str (toString i)) H) ∨ ∃ a, xs = [.str a] ∧ Q (.str a) H
theorem q_strA {X : Cx} : CallR X (.type "str") rStrA := CallR.or call_str_int SkE.call_str_str
def dStrA : List W → Cs → (W → Cs → Prop) → Prop := fun ws C Q => match ws with
  | [.d (.int i)] => i.natAbs < 10 ^ 47 ∧ Q (.d (.str (figs i))) C
  | [.d (.str z)] => Q (.d (.str z)) C
  | _ => False
instance : LowA K rStrA dStrA := ⟨fun ws C ad vs H Qd Q hR r h k => by
  unfold dStrA at h
  split at h
  · rename_i i
    cases r with
    | cons r1 r2 =>
      cases r2
      refine .inl ⟨i, by rw [int_at r1], int_log h.1, ?_⟩
      rw [show (toString i : Str) = tx (figs i) from (tx_cd _).symm]
      exact k _ C _ H ad h.2 hR .refl (rw_str (Nat.le_trans (figs_len h.1) (by decide)))
  · rename_i z
    cases r with
    | cons r1 r2 =>
      cases r2
      exact .inr ⟨tx z, by rw [(str_at r1).1], k _ C _ H ad h hR .refl (rw_str (str_at r1).2)⟩
  · exact h.elim⟩
/-! ## isinstance of a row or a thing -/
theorem q_isi (K : PySem.W.Frag) {X : Cx} (hK : X.K = K := by rfl) : CallR X (.builtin "isinstance") (rIsi K) := hK ▸ call_isi
def tyW (C : Cs) : W → Option String
  | .d x => some x.ty
  | .o i => match C[i]? with
    | some (.lst _) => some "list"
    | some (.tup _) => some "tuple"
    | _ => none
def isTy (t n : String) : Bool := decide (t = n) || (decide (t = "bool") && decide (n = "int"))
def dIsi (n : String) (e : TD) : TD := fun ρ C Q => e ρ C fun w C1 => match tyW C1 w with
  | some t => n ∈ ["list", "tuple", "bool", "str", "int"] ∧ Q (.d (.bl (isTy t n))) C1
  | none => False
theorem isi_tyx {H : Hp} {v : V} {t : String} {n : String} {Q : VK} (h : TyX K H v (.type t)) (ht : t ∈ knownTy) (hn : n ∈ ["list", "tuple", "bool", "str", "int"]) (q : Q (.bl (isTy t n)) H) : rIsi K [v, .ty n] H Q :=
  ⟨v, .ty n, .type t, .type n, _, rfl, .ty n, h, kit_ty (kit_known _ ht n hn), q⟩
instance {n : String} {t : TE} {d : TD} [a : SimE K t d] : SimE K (tCB (rIsi K) (tCons t (tCons (tC (.ty n)) tNil))) (dIsi n d) := ⟨fun ρ C ad σ H Qd Q hR sR h k => a.run ρ C ad σ H _ _ hR sR h fun w C1 v H1 ad1 q1 hR1 g1 r1 => by
  split at q1
  · rename_i t e
    show rIsi K [v, .ty n] H1 Q
    cases w with
    | d x =>
      cases e
      exact isi_ty r1.dAt q1.1 (k _ C1 _ H1 ad1 q1.2 hR1 g1 rw_bl)
    | o i =>
      obtain ⟨p, hp, rfl⟩ := r1
      dsimp only [tyW] at e
      split at e
      · rename_i ws hc
        cases e
        obtain ⟨vs, h1, h2⟩ := hR1.rep i p _ hp hc
        exact isi_tyx (.base (.lst h1)) (by decide) q1.1 (k _ C1 _ H1 ad1 q1.2 hR1 g1 rw_bl)
      · rename_i ws hc
        cases e
        obtain ⟨vs, h1, h2⟩ := hR1.rep i p _ hp hc
        exact isi_tyx (.base (.tup h1)) (by decide) q1.1 (k _ C1 _ H1 ad1 q1.2 hR1 g1 rw_bl)
      · cases e
  · exact q1.elim⟩
/-! ## x in row, deep; the number of a thing -/
theorem eqvs_any (d : Dt) (h : Pln d = true) : ∀ es : List Dt, Plns es = true → ((pyAll es).any (fun z => PyData.eqv z d.py) = true ↔ d ∈ es)
  | [], _ => by simp [pyAll]
  | e :: es, k => by
    unfold Plns at k
    rw [Bool.and_eq_true] at k
    have h1 := eqv_pln e d k.1 h
    have h2 := eqvs_any d h es k.2
    simp only [pyAll, List.any_cons, Bool.or_eq_true, h1, h2, List.mem_cons]
    constructor
    · rintro (e | m)
      · exact .inl e.symm
      · exact .inr m
    · rintro (e | m)
      · exact .inl e.symm
      · exact .inr m
theorem q_inD (K : PySem.W.Frag) {X : Cx} (hu : X.A.units + 65 < cLine) (hK : X.K = K := by rfl) : OpR X (compareOp .In) (rInD K) := hK ▸ op_inD hu
def dInD : RD2 := fun x y C Q => ∃ a ds, rds C x a ∧ rds C y (.lst ds) ∧ (Pln a = true ∧ deep a ≤ 64 ∧ Plns ds = true ∧ deep (.lst ds) ≤ 64) ∧ ∀ c : Bool, (c = true ↔ a ∈ ds) → Q (.d (.bl c)) C
instance : Low2 K (rInD K) dInD := ⟨fun x y C ad v u H Qd Q hR rx ry h k => by
  obtain ⟨a, ds, ha, hb, ⟨h1, h2, h3, h4⟩, q⟩ := h
  have at2 := at_dp (.lst ds) u (by unfold Pln; exact h3) (rds_at hR (.lst ds) y u ry hb)
  have sh2 := pln_shaped (d := .lst ds) (by unfold Pln; exact h3) h4
  simp only [Dt.py] at at2 sh2
  exact ⟨a.py, pyAll ds, at_dp a v h1 (rds_at hR a x v rx ha), at2, pln_shaped h1 h2, sh2, k _ C _ H ad (q _ (eqvs_any a h1 ds h3)) hR .refl rw_bl⟩⟩
end
end BK

namespace BK
open PySem PySem.Spec PyProof.Rows L2
/-! ## defs that only read and tell a leaf -/
def leaf : Dt → Bool
  | .lst _ => false
  | .tup _ => false
  | .dic => false
  | _ => true
theorem at_any {K : PySem.W.Frag} {L L' : Hp} {v : V} {d : Dt} (h : leaf d = true) (r : At K L v d) : At K L' v d := by
  cases d with
  | lst _ => cases h
  | tup _ => cases h
  | dic => cases h
  | _ => unfold At at r ⊢; exact r
def pureD (pre : List Dt → Prop) (F : List Dt → Dt) : SpD := fun ws C Q _ => ∃ ds : List Dt, ws = ds.map W.d ∧ pre ds ∧ Q (.d (F ds)) C
def pureR (pre : List Dt → Prop) (F : List Dt → Dt) : SpD := fun ws C Q _ => ∃ ds : List Dt, rdss C ws ds ∧ pre ds ∧ Q (.d (F ds)) C
section
variable {P : Program} {w : World} {K : PySem.W.Frag} {mg : Str → Option Value} {base : Heap} {k : Nat} {f : Addr} {fd : FuncData} {ps : List Str}
theorem nil_of {ad : List Addr} {H : Hp} (h : HeapR K ad [] H) : ad = [] := List.eq_nil_of_length_eq_zero h.len
theorem pure_imp {pre : List Dt → Prop} {F : List Dt → Dt} (hF : ∀ ds, pre ds → leaf (F ds) = true) {vs : List V} {H : Hp} {Q : VK} {E : XK} (h : lft K (pureR pre F) vs H Q E) : lft K (pureD pre F) vs H Q E := by
  obtain ⟨ws, C, ad, Qd, Xd, hR, rv, ⟨ds, hr, hp, q⟩, kd, kx⟩ := h
  refine ⟨ds.map W.d, [], [], fun w C1 => w = .d (F ds) ∧ C1 = [], X0, heap0, ?_, ⟨ds, rfl, hp, rfl, rfl⟩, ?_, contX0⟩
  · rw [low0]
    exact rep_ats (rdss_at hR ds ws vs rv hr)
  · rintro w C1 v H1 ad1 ⟨rfl, rfl⟩ hR1 g1 r1
    have e := nil_of hR1
    subst e
    have s := g1.low
    rw [low0, low0] at s
    exact kd _ C v H1 ad q (hR.same s) (grw_same s) (at_any (hF ds hp) r1)
theorem FnOk.rd {CX : CXT} {pre : List Dt → Prop} {F : List Dt → Dt} (h : FnOk P w K mg base CX k f fd ps (lft K (pureD pre F))) (hF : ∀ ds, pre ds → leaf (F ds) = true) : FnOk P w K mg base CX k f fd ps (lft K (pureR pre F)) :=
  h.imp fun _ _ _ _ => pure_imp hF
end
theorem rdss1 {C : Cs} {w : W} {d : Dt} (h : rds C w d) : rdss C [w] [d] := by
  unfold rdss
  exact ⟨w, [], rfl, h, by unfold rdss; rfl⟩
/-! ## joined texts' lengths -/
theorem sum_le {zs : List (List Nat)} {L : Nat} (h : ∀ z ∈ zs, z.length ≤ L) : (zs.map (·.length)).sum ≤ zs.length * L := by
  induction zs with
  | nil => simp
  | cons z zs ih =>
    have h1 := h z (List.mem_cons_self ..)
    have h2 := ih fun y hy => h y (List.mem_cons_of_mem _ hy)
    rw [List.map_cons, List.sum_cons, List.length_cons, Nat.add_mul]
    omega
theorem joinL_len {a : List Nat} : ∀ {zs : List (List Nat)}, (TL.joinL a zs).length ≤ (zs.map (·.length)).sum + zs.length * a.length
  | [] => by simp [TL.joinL]
  | [p] => by
    show p.length ≤ _
    simp
  | p :: q :: r => by
    show (p ++ (a ++ TL.joinL a (q :: r))).length ≤ _
    have := joinL_len (a := a) (zs := q :: r)
    rw [List.length_append, List.length_append]
    rw [List.map_cons, List.sum_cons, List.length_cons (a := p), Nat.add_mul]
    omega
theorem joinL_ok {a : List Nat} {zs : List (List Nat)} {L n : Nat} (h : ∀ z ∈ zs, z.length ≤ L) (hn : zs.length ≤ n) (hb : n * (L + a.length) ≤ 1000000) : (zs.map (·.length)).sum + zs.length * a.length ≤ 16777216 ∧ (TL.joinL a zs).length ≤ n * (L + a.length) := by
  have h1 := sum_le h
  have h2 := joinL_len (a := a) (zs := zs)
  have h3 : zs.length * (L + a.length) ≤ n * (L + a.length) := Nat.mul_le_mul_right _ hn
  rw [Nat.mul_add] at h3
  constructor <;> omega
theorem selT_strs {ds : List Dt} {zs : List (List Nat)} (h : ds = zs.map Dt.str) : selT (ds.map W.d) = some zs := by
  subst h
  rw [List.map_map]
  exact selT_map zs
end BK

namespace BK
open PySem PySem.Spec PyProof.Rows L2
theorem rowW_1 {C : Cs} {ds : List Dt} : rowW C (.d (.lst ds)) = some (ds.map W.d) := rfl
theorem rowW_2 {C : Cs} {ds : List Dt} : rowW C (.d (.tup ds)) = some (ds.map W.d) := rfl
theorem rowW_3 {C : Cs} {i : Nat} : rowW C (.o i) = (match C[i]? with | some (.lst ws) => some ws | some (.tup ws) => some ws | _ => none) := rfl
theorem lstW_1 {C : Cs} {ds : List Dt} : lstW C (.d (.lst ds)) = some (ds.map W.d) := rfl
theorem lstW_2 {C : Cs} {i : Nat} : lstW C (.o i) = (match C[i]? with | some (.lst ws) => some ws | _ => none) := rfl
theorem rowIt_1 {C : Cs} {ds : List Dt} : rowIt C (.d (.lst ds)) = some (itList (ds.map W.d)) := rfl
theorem rowIt_2 {C : Cs} {ds : List Dt} : rowIt C (.d (.tup ds)) = some (itList (ds.map W.d)) := rfl
theorem rowIt_3 {C : Cs} {k : Nat} : rowIt C (.o k) = (match C[k]? with | some (.lst _) => some (itOwn k) | some (.tup _) => some (itOwnT k) | _ => none) := rfl
theorem ixW_1 {C : Cs} {z : List Nat} {i : Int} : ixW C (.d (.str z)) (.d (.int i)) = (atI z i).map (fun c => W.d (.str [c])) := rfl
theorem ixW_2 {C : Cs} {ds : List Dt} {i : Int} : ixW C (.d (.lst ds)) (.d (.int i)) = (atI ds i).map W.d := rfl
theorem ixW_3 {C : Cs} {ds : List Dt} {i : Int} : ixW C (.d (.tup ds)) (.d (.int i)) = (atI ds i).map W.d := rfl
theorem ixW_4 {C : Cs} {k : Nat} {i : Int} : ixW C (.o k) (.d (.int i)) = (match rowW C (.o k) with | some ws => atI ws i | none => none) := rfl
theorem lenW_1 {C : Cs} {z : List Nat} : lenW C (.d (.str z)) = some z.length := rfl
theorem lenW_2 {C : Cs} {z : List Dt} : lenW C (.d (.lst z)) = some z.length := rfl
theorem lenW_3 {C : Cs} {z : List Dt} : lenW C (.d (.tup z)) = some z.length := rfl
theorem lenW_4 {C : Cs} {i : Nat} : lenW C (.o i) = (match rowW C (.o i) with | some ws => some ws.length | none => none) := rfl
theorem truW_1 {C : Cs} : truW C (.d .non) = some false := rfl
theorem truW_2 {C : Cs} {b : Bool} : truW C (.d (.bl b)) = some b := rfl
theorem truW_3 {C : Cs} {i : Int} : truW C (.d (.int i)) = some (i != 0) := rfl
theorem truW_4 {C : Cs} {z : List Nat} : truW C (.d (.str z)) = some (!z.isEmpty) := rfl
theorem truW_5 {C : Cs} {z : List Dt} : truW C (.d (.lst z)) = some (!z.isEmpty) := rfl
theorem truW_6 {C : Cs} {z : List Dt} : truW C (.d (.tup z)) = some (!z.isEmpty) := rfl
theorem truW_7 {C : Cs} {i : Nat} : truW C (.o i) = (match C[i]? with | some (.lst ws) => some (!ws.isEmpty) | some (.tup ws) => some (!ws.isEmpty) | some (.dK kvs) => some (!kvs.isEmpty) | _ => none) := rfl
theorem tyW_1 {C : Cs} {x : Dt} : tyW C (.d x) = some x.ty := rfl
theorem tyW_2 {C : Cs} {i : Nat} : tyW C (.o i) = (match C[i]? with | some (.lst _) => some "list" | some (.tup _) => some "tuple" | _ => none) := rfl
theorem selB_1  : selB [] = some [] := rfl
theorem selB_2 {i : Bool} {ws : List W} : selB (.d (.bl i) :: ws) = (selB ws).map (i :: ·) := rfl
theorem selI_1  : selI [] = some [] := rfl
theorem selI_2 {i : Int} {ws : List W} : selI (.d (.int i) :: ws) = (selI ws).map (i :: ·) := rfl
theorem selT_1  : selT [] = some [] := rfl
theorem selT_2 {i : List Nat} {ws : List W} : selT (.d (.str i) :: ws) = (selT ws).map (i :: ·) := rfl
theorem sEq_1  : sEq (.d .non) (.d .non) = some true := rfl
theorem sEq_2 {y : Int}  : sEq (.d .non) (.d (.int y)) = some false := rfl
theorem sEq_3 {y : Bool}  : sEq (.d .non) (.d (.bl y)) = some false := rfl
theorem sEq_4 {y : List Nat}  : sEq (.d .non) (.d (.str y)) = some false := rfl
theorem sEq_5 {x : Int}  : sEq (.d (.int x)) (.d .non) = some false := rfl
theorem sEq_6 {x : Int} {y : Int}  : sEq (.d (.int x)) (.d (.int y)) = some (decide (x = y)) := rfl
theorem sEq_7 {x : Int} {y : List Nat}  : sEq (.d (.int x)) (.d (.str y)) = some false := rfl
theorem sEq_8 {x : Bool}  : sEq (.d (.bl x)) (.d .non) = some false := rfl
theorem sEq_9 {x : Bool} {y : Bool}  : sEq (.d (.bl x)) (.d (.bl y)) = some (decide (x = y)) := rfl
theorem sEq_10 {x : Bool} {y : List Nat}  : sEq (.d (.bl x)) (.d (.str y)) = some false := rfl
theorem sEq_11 {x : List Nat}  : sEq (.d (.str x)) (.d .non) = some false := rfl
theorem sEq_12 {x : List Nat} {y : Int}  : sEq (.d (.str x)) (.d (.int y)) = some false := rfl
theorem sEq_13 {x : List Nat} {y : Bool}  : sEq (.d (.str x)) (.d (.bl y)) = some false := rfl
theorem sEq_14 {x : List Nat} {y : List Nat}  : sEq (.d (.str x)) (.d (.str y)) = some (decide (x = y)) := rfl
theorem isNon_1  : isNon (.d .non) = true := rfl
theorem isNon_2 {x : Int} : isNon (.d (.int x)) = false := rfl
theorem isNon_3 {x : List Nat} : isNon (.d (.str x)) = false := rfl
theorem isNon_4 {x : Bool} : isNon (.d (.bl x)) = false := rfl
theorem isNon_5 {x : List Dt} : isNon (.d (.lst x)) = false := rfl
theorem isNon_6 {x : List Dt} : isNon (.d (.tup x)) = false := rfl
theorem isNon_7 {x : Nat} : isNon (.o x) = false := rfl
theorem isT_1 {x : List Nat} : isT (.d (.str x)) = true := rfl
end BK

namespace BK
open PySem PySem.Spec PyProof.Rows L2
section
variable {K : PySem.W.Frag}
/-! ## + and == of anything -/
def rAddA (K : PySem.W.Frag) : R2 := fun x y H Q => rI0 (fun i j => .int (i + j)) x y H Q ∨ (∃ i j, x = .str i ∧ y = .str j ∧ i.length + j.length ≤ sizeLine ∧ Q (.str (i ++ j)) H) ∨ rCatL K x y H Q
theorem q_addA (K : PySem.W.Frag) {X : Cx} (hK : X.K = K := by rfl) : OpR X (binaryOp .Add) (rAddA K) := OpR.or op_add (OpR.or op_add_str (q_cat K hK))
def dAddA : RD2 := fun x y C Q => match x, y with
  | .d (.int i), .d (.int j) => Q (.d (.int (i + j))) C
  | .d (.str a), .d (.str b) => (a ++ b).length ≤ 1000000 ∧ Q (.d (.str (a ++ b))) C
  | x, y => dCat x y C Q
theorem dAddA_i {i j : Int} {C : Cs} {Q : W → Cs → Prop} : dAddA (.d (.int i)) (.d (.int j)) C Q = Q (.d (.int (i + j))) C := rfl
theorem dAddA_s {a b : List Nat} {C : Cs} {Q : W → Cs → Prop} : dAddA (.d (.str a)) (.d (.str b)) C Q = ((a ++ b).length ≤ 1000000 ∧ Q (.d (.str (a ++ b))) C) := rfl
theorem dAddA_ll {a b : List Dt} {C : Cs} {Q : W → Cs → Prop} : dAddA (.d (.lst a)) (.d (.lst b)) C Q = dCat (.d (.lst a)) (.d (.lst b)) C Q := rfl
theorem dAddA_lo {a : List Dt} {j : Nat} {C : Cs} {Q : W → Cs → Prop} : dAddA (.d (.lst a)) (.o j) C Q = dCat (.d (.lst a)) (.o j) C Q := rfl
theorem dAddA_ol {a : List Dt} {j : Nat} {C : Cs} {Q : W → Cs → Prop} : dAddA (.o j) (.d (.lst a)) C Q = dCat (.o j) (.d (.lst a)) C Q := rfl
theorem dAddA_oo {i j : Nat} {C : Cs} {Q : W → Cs → Prop} : dAddA (.o i) (.o j) C Q = dCat (.o i) (.o j) C Q := rfl
instance : Low2 K (rAddA K) dAddA := ⟨fun x y C ad v u H Qd Q hR rx ry h k => by
  unfold dAddA at h
  split at h
  · exact .inl ⟨_, _, int_at rx, int_at ry, k _ C _ H ad h hR .refl rw_int⟩
  · rename_i a b
    obtain ⟨rfl, la⟩ := str_at rx
    obtain ⟨rfl, lb⟩ := str_at ry
    have h1 := h.1
    rw [List.length_append] at h1
    refine .inr (.inl ⟨tx a, tx b, rfl, rfl, by rw [tx_len, tx_len]; exact Nat.le_trans h1 (by decide), ?_⟩)
    rw [tx_append]
    exact k _ C _ H ad h.2 hR .refl (rw_str h.1)
  · exact .inr (.inr (Low2.run (K := K) (r := rCatL K) (d := dCat) _ _ C ad v u H Qd Q hR rx ry h k))⟩
def rEqA (K : PySem.W.Frag) : R2 := fun x y H Q => rEq x y H Q ∨ rEqD K x y H Q
def rNeA (K : PySem.W.Frag) : R2 := fun x y H Q => rNe x y H Q ∨ rNeD K x y H Q
theorem q_eqA (K : PySem.W.Frag) {X : Cx} (hu : X.A.units + 64 < cLine) (hK : X.K = K := by rfl) : OpR X (compareOp .Eq) (rEqA K) := OpR.or op_eq (q_eqD K hu hK)
theorem q_neA (K : PySem.W.Frag) {X : Cx} (hu : X.A.units + 64 < cLine) (hK : X.K = K := by rfl) : OpR X (compareOp .NotEq) (rNeA K) := OpR.or op_ne (q_neD K hu hK)
def dEqA : RD2 := fun x y C Q => match sEq x y with
  | some b => Q (.d (.bl b)) C
  | none => dEqD x y C Q
def dNeA : RD2 := fun x y C Q => match sEq x y with
  | some b => Q (.d (.bl (!b))) C
  | none => dNeD x y C Q
instance : Low2 K (rEqA K) dEqA := ⟨fun x y C ad v u H Qd Q hR rx ry h k => by
  unfold dEqA at h
  split at h
  · rename_i b e
    obtain ⟨h1, h2⟩ := sEq_run rx ry e
    exact .inl ⟨h1, by rw [h2]; exact k _ C _ H ad h hR .refl rw_bl⟩
  · exact .inr (Low2.run (K := K) (r := rEqD K) (d := dEqD) _ _ C ad v u H Qd Q hR rx ry h k)⟩
instance : Low2 K (rNeA K) dNeA := ⟨fun x y C ad v u H Qd Q hR rx ry h k => by
  unfold dNeA at h
  split at h
  · rename_i b e
    obtain ⟨h1, h2⟩ := sEq_run rx ry e
    exact .inl ⟨h1, by rw [h2]; exact k _ C _ H ad h hR .refl rw_bl⟩
  · exact .inr (Low2.run (K := K) (r := rNeD K) (d := dNeD) _ _ C ad v u H Qd Q hR rx ry h k)⟩
theorem sEq_ol {i : Nat} {y : W} : sEq (.o i) y = none := by cases y <;> rfl
theorem sEq_lo {i : Nat} {y : W} : sEq y (.o i) = none := by
  cases y with
  | d x => cases x <;> rfl
  | o i => rfl
theorem sEq_ll {a b : List Dt} : sEq (.d (.lst a)) (.d (.lst b)) = none := rfl
theorem sEq_tt {a b : List Dt} : sEq (.d (.tup a)) (.d (.tup b)) = none := rfl
theorem sEq_lt {a b : List Dt} : sEq (.d (.lst a)) (.d (.tup b)) = none := rfl
theorem sEq_tl {a b : List Dt} : sEq (.d (.tup a)) (.d (.lst b)) = none := rfl
/-! ## a module's dict of texts, asked -/
def rInSD (d : Addr) (ps : List (Str × Str)) (neg : Bool) : R2 := fun a b H Q => ∃ z : Str, a = .str z ∧ b = .ref d ∧ Q (.bl (if neg then !(ps.lookup z).isSome else (ps.lookup z).isSome)) H
theorem q_inSD {X : Cx} {x : Str} {ps : List (Str × Str)} (D : SDict X.K X.w X.mg x ps) : OpR X (compareOp .In) (rInSD D.d ps false) := op_in_sd D
theorem q_notInSD {X : Cx} {x : Str} {ps : List (Str × Str)} (D : SDict X.K X.w X.mg x ps) : OpR X (compareOp .NotIn) (rInSD D.d ps true) := by
  intro pn sh σ G a b v u Q J ra rb h
  obtain ⟨z, e1, e2, q⟩ := h
  cases hl : ps.lookup z with
  | none =>
    rw [hl] at q
    exact op_notIn_kd D.k pn sh σ G a b v u Q J ra rb ⟨z, .none, e1, e2, D.none hl, q⟩
  | some y =>
    rw [hl] at q
    obtain ⟨t, e⟩ := D.some hl
    exact op_notIn_kd D.k pn sh σ G a b v u Q J ra rb ⟨z, _, e1, e2, e, q⟩
def inS (ps : List (Str × Str)) (z : List Nat) : Bool := (ps.lookup (tx z)).isSome
def dInSD (ps : List (Str × Str)) (neg : Bool) (e : TD) : TD := fun ρ C Q => e ρ C fun w C1 => match w with
  | .d (.str z) => Q (.d (.bl (if neg then !inS ps z else inS ps z))) C1
  | _ => False
instance {d : Addr} {ps : List (Str × Str)} {neg : Bool} {t : TE} {e : TD} [a : SimE K t e] : SimE K (tOp (rInSD d ps neg) t (tC (.ref d))) (dInSD ps neg e) := ⟨fun ρ C ad σ H Qd Q hR sR h k => a.run ρ C ad σ H _ _ hR sR h fun w C1 v H1 ad1 q1 hR1 g1 r1 => by
  split at q1
  · rename_i z
    exact ⟨tx z, (str_at r1).1, rfl, k _ C1 _ H1 ad1 q1 hR1 g1 rw_bl⟩
  · exact q1.elim⟩
theorem hu65 {A : Around} {k : Nat} (hr : Room k A) : A.units + 65 < cLine := by have := hr.un; omega
def dNever : TDS := fun _ _ _ => False
instance : SimS K tNever dNever := ⟨fun ρ C ad σ H DD D hR sR h k => h.elim⟩
end
end BK
namespace BK
open PySem PySem.Spec PyProof.Rows L2
/-- a comprehension of anything -/
theorem DLc.genW {J : ItD} {g : TDG} {t : TDT} {e : TD} {ρ0 : Ws} {C : Cs} {Q : W → Cs → Prop} (n : Nat) (it : Nat → W) (P : Nat → List W → Cs → Prop) (hn : n ≤ 16777216) (h0 : P 0 [] (C ++ [.lst []])) (hJ : ∀ i ws C', i ≤ n → P i ws C' → J i C' (if i < n then some (it i) else none))
    (hs : ∀ i ws C', i < n → P i ws C' → C'[C.length]? = some (.lst ws) → ∀ (R : W → Cs → Prop) (S : Cs → Prop), (∀ y C2, C2[C.length]? = some (.lst ws) → P (i + 1) (ws ++ [y]) (C2.set C.length (.lst (ws ++ [y]))) → R y C2) → (∀ C2, C2[C.length]? = some (.lst ws) → P (i + 1) ws C2 → S C2) →
      g (it i) ρ0 C' fun ρ2 C2 => t ρ2 C2 fun b C3 => if b = true then e ρ2 C3 R else S C3)
    (hd : ∀ ws C', P n ws C' → C'[C.length]? = some (.lst ws) → ws.length ≤ n → Q (.o C.length) C') : DLc J g t e ρ0 C C.length Q := by
  refine ⟨fun i m C' => m = n - i ∧ i ≤ n ∧ ∃ ws, P i ws C' ∧ C'[C.length]? = some (.lst ws) ∧ ws.length ≤ i, ⟨n, rfl, Nat.zero_le _, [], h0, last_at, Nat.le_refl _⟩, ?_⟩
  rintro i m C' ⟨rfl, hi, ws, hp, hc, hl⟩
  have hj := hJ i ws C' hi hp
  by_cases lt : i < n
  · rw [if_pos lt] at hj
    refine .inr ⟨it i, hj, fun C' => ∃ ws, P (i + 1) ws C' ∧ C'[C.length]? = some (.lst ws) ∧ ws.length ≤ i + 1, fun C' e => ⟨n - (i + 1), by omega, rfl, lt, e⟩, hs i ws C' lt hp hc _ _ (fun y C2 h2 hp2 => ?_) (fun C2 h2 hp2 => ⟨ws, hp2, h2, by omega⟩)⟩
    exact ⟨ws, h2, by omega, ws ++ [y], hp2, set_at h2, by rw [List.length_append, List.length_singleton]; omega⟩
  · rw [if_neg lt] at hj
    have en : i = n := by omega
    subst en
    exact .inl ⟨hj, hd ws C' hp hc hl⟩
theorem numL_head : ∀ n : Nat, 0 < n → (TL.numL n).head? ≠ some 48 := by
  intro n
  induction n using Nat.strongRecOn with
  | _ n ih =>
    intro h0
    by_cases h : n < 10
    · rw [TL.numL_lt h]
      intro e
      have : 48 + n = 48 := Option.some.inj e
      omega
    · rw [TL.numL_step (by omega)]
      have := ih (n / 10) (by omega) (by omega)
      cases hz : TL.numL (n / 10) with
      | nil => exact absurd hz (TL.numL_ne _)
      | cons c r =>
        rw [hz] at this
        exact this
theorem figs_nat (n : Nat) : figs (n : Int) = TL.numL n := TL.tl_num n
end BK

namespace BK
open PySem PySem.Spec PyProof.Rows L2
section
variable {K : PySem.W.Frag}
/-- x[::-1] -/
theorem pe_revLK (K : PySem.W.Frag) {X : Cx} {e : Expr} {te : TE} {k : Nat} {p1 p2 p3 pos : Pos} (he : PE X e te) (hK : X.K = K := by rfl) : PE X (.Subscript e (.Slice none none (some (.UnaryOp .USub (.Constant (.int 1) k p1) p2)) p3) pos) (tRevL K te) := hK ▸ pe_revL he
def dRevL (e : TD) : TD := fun ρ C Q => e ρ C fun x C1 => match lstW C1 x with
  | some xs => newL xs.reverse C1 Q
  | none => False
instance {t : TE} {d : TD} [a : SimE K t d] : SimE K (tRevL K t) (dRevL d) := ⟨fun ρ C ad σ H Qd Q hR sR h k => a.run ρ C ad σ H _ _ hR sR h fun x C1 v H1 ad1 q1 hR1 g1 r1 => by
  split at q1
  · rename_i xs e
    obtain ⟨p, us, rfl, h1, r2, _⟩ := lst_of hR1 r1 e
    exact ⟨p, us, rfl, h1, newL_run hR1 (prd_rev2 r2) q1 (k.grw g1)⟩
  · exact q1.elim⟩
/-- enumerate: an own list of things, too -/
def itEnumO (k : Nat) : ItD := fun i C r => ∃ ds : List Dt, C[k]? = some (.lst (ds.map W.d)) ∧ itEnum (ds.map W.d) i C r
theorem low_enumO {ad : List Addr} {C : Cs} {H : Hp} {a : Addr} {k : Nat} (ha : ad[k]? = some a) : LowIt K ad C H (Ite K a) (itEnumO k) := by
  refine ⟨fun ad2 C2 H2 i hR g e => ?_, fun ad2 C2 H2 i w hR g e => ?_, fun ad2 C2 H2 i w x H3 hR g e y => ?_⟩
  · obtain ⟨ds, hc, e⟩ := e
    obtain ⟨vs, h1, h2⟩ := hR.rep k a _ (g.pre k a ha) hc
    exact ⟨vs, SqL.of h1, by have := itEnum_none e; have := (ats_of h2).len; omega⟩
  · obtain ⟨ds, hc, e⟩ := e
    obtain ⟨vs, h1, h2⟩ := hR.rep k a _ (g.pre k a ha) hc
    obtain ⟨x, hx, rfl⟩ := itEnum_some e
    exact (walk_enum (K := K) (a := a) (xs := vs)).1 i H2 (by have := (List.getElem?_eq_some_iff.mp hx).1; have := (ats_of h2).len; omega) (SqL.of h1)
  · obtain ⟨ds, hc, e⟩ := e
    obtain ⟨vs, h1, h2⟩ := hR.rep k a _ (g.pre k a ha) hc
    obtain ⟨z, hz, _⟩ := itEnum_some e
    exact enum_yld (ats_of h2) hR .refl e ((walk_enum (K := K) (a := a) (xs := vs)).3 i H2 x H3 (by have := (List.getElem?_eq_some_iff.mp hz).1; have := (ats_of h2).len; omega) (SqL.of h1) y)
def dEnumO (a : TDA) : TDI := fun ρ C R => a ρ C fun ws C1 => match ws with
  | [.d (.lst ds)] => R (itEnum (ds.map W.d)) C1
  | [.d (.tup ds)] => R (itEnum (ds.map W.d)) C1
  | [.o k] => match C1[k]? with
    | some (.lst _) => R (itEnumO k) C1
    | _ => False
  | _ => False
instance {t : TA} {d : TDA} [a : SimA K t d] : SimI K (iEnumR K t) (dEnumO d) := ⟨fun ρ C ad σ H Rd R hR sR h k => a.run ρ C ad σ H _ _ hR sR h fun ws C1 vs H1 ad1 q1 hR1 g1 r1 => by
  split at q1
  · rename_i ds
    cases r1 with
    | cons ra rr =>
      cases rr
      rename_i v
      have r2 : At K _ v (.lst ds) := ra
      unfold At at r2
      obtain ⟨p, xs, rfl, h1, h2⟩ := r2
      exact ⟨p, xs, rfl, .inl ⟨(low_same _ _ _).seq h1, k _ _ C1 H1 ad1 q1 hR1 g1 (low_enum h1 h2)⟩⟩
  · rename_i ds
    cases r1 with
    | cons ra rr =>
      cases rr
      rename_i v
      have r2 : At K _ v (.tup ds) := ra
      unfold At at r2
      obtain ⟨p, xs, rfl, h1, h2⟩ := r2
      exact ⟨p, xs, rfl, .inr ⟨sameT (low_same _ _ _) h1, k _ _ C1 H1 ad1 q1 hR1 g1 (low_enumT h1 h2)⟩⟩
  · rename_i j
    cases r1 with
    | cons ra rr =>
      cases rr
      split at q1
      · rename_i ws hc
        obtain ⟨p, hp, rfl⟩ := ra
        obtain ⟨us, h1, _⟩ := hR1.rep j p _ hp hc
        exact ⟨p, us, rfl, .inl ⟨SqL.of h1, k _ _ C1 H1 ad1 q1 hR1 g1 (low_enumO hp)⟩⟩
      · exact q1.elim
  · exact q1.elim⟩
theorem DFor.enumO {g : TDG} {t : TDS} {D : DEnds} {ρ : Ws} {C : Cs} {k : Nat} {ds : List Dt} (P : Nat → Ws → Cs → Prop) (h0 : P 0 ρ C) (hc : ∀ i ρ C, P i ρ C → C[k]? = some (.lst (ds.map W.d))) (hn : ∀ ρ C, P ds.length ρ C → D.nx ρ C)
    (hs : ∀ i x ρ C, ds[i]? = some x → P i ρ C → g (.d (.tup [.int (i : Nat), x])) ρ C fun ρ2 C2 => t { D with nx := P (i + 1), ct := P (i + 1), bk := D.nx } ρ2 C2) : DFor (itEnumO k) g t D ρ C := by
  refine DFor.by ds.length (fun i => .d (.tup [.int (i : Nat), ds.getD i .non])) P h0 (fun ρ C p => ⟨⟨ds, hc _ ρ C p, ?_⟩, hn ρ C p⟩) fun i ρ C hi p => ?_
  · unfold itEnum
    rw [List.getElem?_map, List.getElem?_eq_none_iff.mpr (Nat.le_refl _)]
    rfl
  · have e : ds[i]? = some (ds.getD i .non) := by rw [List.getD_eq_getElem?_getD, List.getElem?_eq_getElem hi]; rfl
    refine ⟨⟨ds, hc _ ρ C p, ?_⟩, hs i _ ρ C e p⟩
    unfold itEnum
    rw [List.getElem?_map, e]
    rfl
end
end BK

namespace BK
open PySem PySem.Spec PyProof.Rows L2
section
variable {K : PySem.W.Frag}
/-! ## objects -/
theorem cl_rfl {c : Addr} : (c = c) = True := eq_self c
theorem prd_look {α β : Type} {R : α → β → Prop} : ∀ {xs : List (Str × α)} {ys : List (Str × β)}, Paired (fun p q => p.1 = q.1 ∧ R p.2 q.2) xs ys → ∀ f : Str, (∀ y, ys.lookup f = some y → ∃ x, xs.lookup f = some x ∧ R x y) ∧ (ys.lookup f = none → xs.lookup f = none)
  | _, _, .nil, f => ⟨fun y h => (nomatch h), fun _ => rfl⟩
  | _, _, .cons (a := a) (b := b) r t, f => by
    obtain ⟨g, x⟩ := a
    obtain ⟨g', y⟩ := b
    obtain ⟨r1, r2⟩ := r
    cases r1
    have ih := prd_look t f
    show (∀ z, List.lookup f ((g, y) :: _) = some z → ∃ w, List.lookup f ((g, x) :: _) = some w ∧ R w z) ∧ (List.lookup f ((g, y) :: _) = none → List.lookup f ((g, x) :: _) = none)
    by_cases e : f = g
    · subst e
      rw [List.lookup_cons_self, List.lookup_cons_self]
      exact ⟨fun z h => by cases h; exact ⟨x, rfl, r2⟩, fun h => by cases h⟩
    · have hb : (f == g) = false := beq_eq_false_iff_ne.mpr e
      rw [List.lookup_cons, List.lookup_cons, hb]
      exact ih
/-- fields with one put to them -/
def putW (f : Str) (w : W) : List (Str × W) → List (Str × W)
  | [] => [(f, w)]
  | (g, x) :: r => if g = f then (g, w) :: r else (g, x) :: putW f w r
theorem prd_put {R : V → W → Prop} {f : Str} {v : V} {w : W} (r : R v w) : ∀ {xs : List (Str × V)} {ys : List (Str × W)}, Paired (fun p q => p.1 = q.1 ∧ R p.2 q.2) xs ys → Paired (fun p q => p.1 = q.1 ∧ R p.2 q.2) (putF f v xs) (putW f w ys)
  | _, _, .nil => .cons ⟨rfl, r⟩ .nil
  | _, _, .cons (a := a) (b := b) h t => by
    obtain ⟨g, x⟩ := a
    obtain ⟨g', y⟩ := b
    obtain ⟨h1, h2⟩ := h
    cases h1
    unfold putF putW
    by_cases e : g = f
    · rw [if_pos e, if_pos e]
      exact .cons ⟨rfl, r⟩ t
    · rw [if_neg e, if_neg e]
      exact .cons ⟨rfl, h2⟩ (prd_put r t)
/-- what an object's field holds -/
def fldW (C : Cs) (c : Addr) (f : Str) : W → Option W
  | .o i => match C[i]? with
    | some (.ins _ fs) => fs.lookup f
    | _ => none
  | _ => none
theorem ins_of {ad : List Addr} {C : Cs} {H : Hp} {v : V} {i : Nat} {c : Addr} {fs : List (Str × W)} (h : HeapR K ad C H) (r : RepW K (low ad C H) ad v (.o i)) (e : C[i]? = some (.ins c fs)) : ∃ a dx gs, v = .ref a ∧ H a = some (.ins c dx gs) ∧ Paired (fun p q => p.1 = q.1 ∧ RepW K (low ad C H) ad p.2 q.2) gs fs ∧ ad[i]? = some a := by
  obtain ⟨a, ha, rfl⟩ := r
  obtain ⟨dx, gs, h1, h2⟩ := h.rep i a _ ha e
  exact ⟨a, dx, gs, rfl, h1, h2, ha⟩
/-- e.f, of an object of the class at c -/
def tFldC (c : Addr) (t : TE) (f : Str) : TE := fun σ H Q => t σ H fun x H1 => ∃ a dx fs v, x = .ref a ∧ H1 a = some (.ins c dx fs) ∧ fs.lookup f = some v ∧ Q v H1
theorem pe_fldC {X : Cx} {c : Addr} {e : Expr} {f : Str} {pos : Pos} {t : TE} (cl : Cls X.K c) (n : NoAttr X.K c f) (he : PE X e t) (hb : attributeBase e f X.env (eval e X.env) = eval e X.env := by rfl) : PE X (.Attribute e f pos) (tFldC c t f) := by
  constructor
  intro pins s σ H Q J h
  refine attr_of hb (thn (he.run pins s σ H _ J h) ?_)
  rintro u s1 ⟨x, H1, J1, rx, a, dx, gs, v, rfl, ea, el, q⟩
  cases (show u = Value.ref a from rx)
  exact getattr_ok J1 ea cl n el fun u2 s2 J2 ru => ⟨v, H1, J2, ru, q⟩
def dFld (c : Addr) (f : Str) (e : TD) : TD := fun ρ C Q => e ρ C fun w C1 => match w with
  | .o i => match C1[i]? with
    | some (.ins c' fs) => c' = c ∧ match fs.lookup f with
      | some u => Q u C1
      | none => False
    | _ => False
  | _ => False
instance {c : Addr} {f : Str} {t : TE} {d : TD} [a : SimE K t d] : SimE K (tFldC c t f) (dFld c f d) := ⟨fun ρ C ad σ H Qd Q hR sR h k => a.run ρ C ad σ H _ _ hR sR h fun w C1 v H1 ad1 q1 hR1 g1 r1 => by
  split at q1
  · split at q1
    · rename_i i c' fs hc
      obtain ⟨rfl, q1⟩ := q1
      obtain ⟨p, dx, gs, rfl, h1, h2, _⟩ := ins_of hR1 r1 hc
      split at q1
      · rename_i u hu
        obtain ⟨x, hx, rx⟩ := (prd_look h2 f).1 u hu
        exact ⟨p, dx, gs, x, rfl, h1, hx, k _ C1 _ H1 ad1 q1 hR1 g1 rx⟩
      · exact q1.elim
    · exact q1.elim
  · exact q1.elim⟩
/-- e.f = value -/
def sFldC (c : Addr) (t tv : TE) (f : Str) : TS := fun D σ H => tv σ H fun y H1 => t σ H1 fun x H2 => ∃ a dx fs, x = .ref a ∧ H2 a = some (.ins c dx fs) ∧ fs.length < 1000 ∧ D.nx σ (upd H2 a (.ins c dx (putF f y fs)))
theorem ps_fldC {X : Cx} {c : Addr} {o value : Expr} {f : Str} {pos pos' : Pos} {t tv : TE} (cl : Cls X.K c) (n : NoAttr X.K c f) (ho : PE X o t) (hv : PE X value tv) (hs : swapsWith value (some (.Attribute o f pos')) pos.line X.env = pure false := by rfl) : PS X (.Assign [.Attribute o f pos'] value pos) (sFldC c t tv f) := by
  constructor
  intro pins s σ H D J h
  refine plainObj_wpAny_Assign_Attribute (thn (hv.run pins s σ H _ J h) ?_) hs
  rintro u s1 ⟨y, H1, J1, ry, q⟩
  refine thn (ho.run pins s1 σ H1 _ J1 q) ?_
  rintro ov s2 ⟨x, H2, J2, rx, a, dx, fs, rfl, ea, el, q2⟩
  cases (show ov = Value.ref a from rx)
  exact setattr_ok J2 ea cl n el ry fun s3 J3 => ⟨σ, _, J3, q2⟩
def dFldS (c : Addr) (f : Str) (o e : TD) : TDS := fun D ρ C => e ρ C fun y C1 => o ρ C1 fun w C2 => match w with
  | .o i => match C2[i]? with
    | some (.ins c' fs) => c' = c ∧ fs.length < 1000 ∧ D.nx ρ (C2.set i (.ins c' (putW f y fs)))
    | _ => False
  | _ => False
theorem set_ins {ad : List Addr} {C : Cs} {H : Hp} {i : Nat} {a c dx : Addr} {fs fs' : List (Str × W)} {gs' : List (Str × V)} (hR : HeapR K ad C H) (ha : ad[i]? = some a) (hc : C[i]? = some (.ins c fs)) (r : Paired (fun p q => p.1 = q.1 ∧ RepW K (low ad C H) ad p.2 q.2) gs' fs') : HeapR K ad (C.set i (.ins c fs')) (upd H a (.ins c dx gs')) ∧ Grw ad C H ad (C.set i (.ins c fs')) (upd H a (.ins c dx gs')) :=
  hR.set ha hc (fun z => by cases z) (fun z => by cases z) ⟨dx, gs', upd_same, r⟩
instance {c : Addr} {f : Str} {t tv : TE} {d dv : TD} [a : SimE K t d] [b : SimE K tv dv] : SimS K (sFldC c t tv f) (dFldS c f d dv) := ⟨fun ρ C ad σ H DD D hR sR h k => b.run ρ C ad σ H _ _ hR sR h fun y C1 u H1 ad1 q1 hR1 g1 r1 => a.run ρ C1 ad1 σ H1 _ _ hR1 (sR.grw g1) q1 fun w C2 v H2 ad2 q2 hR2 g2 r2 => by
  split at q2
  · split at q2
    · rename_i i c' fs hc
      obtain ⟨rfl, q2, q3⟩ := q2
      obtain ⟨p, dx, gs, rfl, h1, h2, ha⟩ := ins_of hR2 r2 hc
      obtain ⟨hR3, g3⟩ := set_ins (dx := dx) hR2 ha hc (prd_put (f := f) (r1.grw g2) h2)
      exact ⟨p, dx, gs, rfl, h1, by rw [prd_len h2]; exact q2, k.nx _ _ _ _ ad2 q3 hR3 (g1.trans (g2.trans g3)) ((sR.grw (g1.trans g2)).grw g3)⟩
    · exact q2.elim
  · exact q2.elim⟩
/-- e.f += value -/
def sFldAugC (c : Addr) (t tv : TE) (rd : V → V → Hp → VK → Prop) (f : Str) : TS := fun D σ H => t σ H fun x H1 => ∃ a dx fs v, x = .ref a ∧ H1 a = some (.ins c dx fs) ∧ fs.lookup f = some v ∧
  tv σ H1 fun y H2 => rd v y H2 fun z H3 => ∃ dx' fs', H3 a = some (.ins c dx' fs') ∧ fs'.length < 1000 ∧ D.nx σ (upd H3 a (.ins c dx' (putF f z fs')))
theorem ps_fldaugC {X : Cx} {c : Addr} {o value : Expr} {f : Str} {pos tpos : Pos} {t tv : TE} {op : Operator} {rd : V → V → Hp → VK → Prop} (cl : Cls X.K c) (n : NoAttr X.K c f) (ho : PE X o t) (hv : PE X value tv) (hop : InOp X op rd) : PS X (.AugAssign (.Attribute o f tpos) op value pos) (sFldAugC c t tv rd f) := by
  constructor
  intro pins s σ H D J h
  refine wpAny_AugAssign_AttributeAny (thn (ho.run pins s σ H _ J h) ?_)
  rintro ov s1 ⟨x, H1, J1, rx, a, dx, fs, v, rfl, ea, l, q⟩
  cases (show ov = Value.ref a from rx)
  refine getattr_ok J1 ea cl n l fun u s2 J2 ru => thn (hv.run pins s2 σ H1 _ J2 q) ?_
  rintro w3 s3 ⟨y, H2, J3, ry, q3⟩
  refine thn (hop pins s3 σ H2 v y u w3 _ J3 ru ry q3) ?_
  rintro w4 s4 ⟨z, H3, J4, rz, dx', fs', ea', l', q4⟩
  exact setattr_ok J4 ea' cl n l' rz fun s5 J5 => ⟨σ, _, J5, q4⟩
/-- whole numbers alone -/
def dFldAug (c : Addr) (f : Str) (o e : TD) : TDS := fun D ρ C => o ρ C fun w C1 => match w with
  | .o i => match C1[i]? with
    | some (.ins c' fs) => c' = c ∧ match fs.lookup f with
      | some (.d (.int x)) => e ρ C1 fun y C2 => match y with
        | .d (.int z) => match C2[i]? with
          | some (.ins c2 fs2) => c2 = c ∧ fs2.length < 1000 ∧ D.nx ρ (C2.set i (.ins c2 (putW f (.d (.int (x + z))) fs2)))
          | _ => False
        | _ => False
      | _ => False
    | _ => False
  | _ => False
instance {c : Addr} {f : Str} {t tv : TE} {d dv : TD} [a : SimE K t d] [b : SimE K tv dv] : SimS K (sFldAugC c t tv rAdd f) (dFldAug c f d dv) := ⟨fun ρ C ad σ H DD D hR sR h k => a.run ρ C ad σ H _ _ hR sR h fun w C1 v H1 ad1 q1 hR1 g1 r1 => by
  split at q1
  · split at q1
    · rename_i i c' fs hc
      obtain ⟨rfl, q1⟩ := q1
      obtain ⟨p, dx, gs, rfl, h1, h2, ha⟩ := ins_of hR1 r1 hc
      split at q1
      · rename_i x hx
        obtain ⟨u, hu, ru⟩ := (prd_look h2 f).1 _ hx
        have eu := int_at ru
        subst eu
        refine ⟨p, dx, gs, _, rfl, h1, hu, b.run ρ C1 ad1 σ H1 _ _ hR1 (sR.grw g1) q1 fun y C2 t H2 ad2 q2 hR2 g2 r2 => ?_⟩
        split at q2
        · rename_i z
          have et := int_at r2
          subst et
          refine ⟨x, z, rfl, rfl, ?_⟩
          split at q2
          · rename_i c2 fs2 hc2
            obtain ⟨rfl, q2, q3⟩ := q2
            obtain ⟨p2, dx2, gs2, e2, h3, h4, ha2⟩ := ins_of hR2 (r1.grw g2) hc2
            cases e2
            obtain ⟨hR3, g3⟩ := set_ins (dx := dx2) hR2 ha2 hc2 (prd_put (f := f) (rw_int (i := x + z)) h4)
            exact ⟨dx2, gs2, h3, by rw [prd_len h4]; exact q2, k.nx _ _ _ _ ad2 q3 hR3 (g1.trans (g2.trans g3)) ((sR.grw (g1.trans g2)).grw g3)⟩
          · exact q2.elim
        · exact q2.elim
      · exact q1.elim
    · exact q1.elim
  · exact q1.elim⟩
/-- e.m(..) -/
def dMeth (c : Addr) (m : Str) (sp : SpD) (o : TD) (a : TDA) : TD := fun ρ C Q => o ρ C fun w C1 => match w with
  | .o i => match C1[i]? with
    | some (.ins c' fs) => c' = c ∧ fs.lookup m = none ∧ a ρ C1 fun ws C2 => sp (.o i :: ws) C2 Q X0
    | _ => False
  | _ => False
instance {c : Addr} {m : Str} {sp : SpD} {E : XK} {t : TE} {ta : TA} {d : TD} {da : TDA} [o : SimE K t d] [a : SimA K ta da] : SimE K (tMeth c m (lft K sp) [] E t ta) (dMeth c m sp d da) := ⟨fun ρ C ad σ H Qd Q hR sR h k => o.run ρ C ad σ H _ _ hR sR h fun w C1 v H1 ad1 q1 hR1 g1 r1 => by
  split at q1
  · split at q1
    · rename_i i c' fs hc
      obtain ⟨rfl, hm, q1⟩ := q1
      obtain ⟨p, dx, gs, rfl, h1, h2, ha⟩ := ins_of hR1 r1 hc
      refine ⟨p, dx, gs, rfl, h1, (prd_look h2 m).2 hm, a.run ρ C1 ad1 σ H1 _ _ hR1 (sR.grw g1) q1 fun ws C2 vs H2 ad2 q2 hR2 g2 r2 => ?_⟩
      exact ⟨_, C2, ad2, Qd, X0, hR2, .cons (r1.grw g2) (by rw [List.append_nil]; exact r2), q2, k.grw (g1.trans g2), contX0⟩
    · exact q1.elim
  · exact q1.elim⟩
/-- C(..) -/
def dMake (c : Addr) (sp : SpD) (a : TDA) : TD := fun ρ C Q => a ρ C fun ws C1 => sp (.o C1.length :: ws) (C1 ++ [.ins c []]) (fun w C2 => w = .d .non ∧ Q (.o C1.length) C2) X0
instance {c : Addr} {sp : SpD} {E : XK} {ta : TA} {da : TDA} [a : SimA K ta da] : SimE K (tMake c (lft K sp) [] E ta) (dMake c sp da) := ⟨fun ρ C ad σ H Qd Q hR sR h k => a.run ρ C ad σ H _ _ hR sR h fun ws C1 vs H1 ad1 q1 hR1 g1 r1 => by
  intro x dx nx nd ne
  have e1 : Same H1 (upd H1 dx (.own x)) := same_upd nd
  have nx1 : upd H1 dx (.own x) x = none := by rw [upd_ne (Ne.symm ne)]; exact nx
  obtain ⟨hR2, g2⟩ := (hR1.same e1).new (o := .ins c dx []) (c := .ins c []) nx1 (fun z => by cases z) ⟨dx, [], upd_same, .nil⟩
  have g12 := (grw_same (ad := ad1) (C := C1) e1).trans g2
  have rx : RepW K (low (ad1 ++ [x]) (C1 ++ [Cell.ins c []]) (upd (upd H1 dx (.own x)) x (.ins c dx []))) (ad1 ++ [x]) (.ref x) (.o C1.length) := ⟨x, by rw [← hR1.len]; exact List.getElem?_concat_length, rfl⟩
  refine ⟨_, _, _, (fun w C2 => w = .d .non ∧ Qd (.o C1.length) C2), X0, hR2, .cons rx (by rw [List.append_nil]; exact RepWs.grw r1 g12), q1, ?_, contX0⟩
  rintro w C3 v H3 ad3 ⟨rfl, q⟩ hR3 g3 rv
  refine ⟨non_at rv, k _ C3 _ H3 ad3 q hR3 (g1.trans (g12.trans g3)) ?_⟩
  exact rx.grw g3⟩
/-! ## a tuple of its own; one whose list is told whole from now on -/
def tTupO (t : TA) : TE := tTup t
theorem pe_tupO {X : Cx} {e : Expr} {t : TA} (h : PE X e (tTup t)) : PE X e (tTupO t) := h
def dTupO (a : TDA) : TD := fun ρ C Q => a ρ C fun ws C1 => ws.length ≤ 16777216 ∧ Q (.o C1.length) (C1 ++ [.tup ws])
instance {t : TA} {d : TDA} [a : SimA K t d] : SimE K (tTupO t) (dTupO d) := ⟨fun ρ C ad σ H Qd Q hR sR h k =>
  a.run ρ C ad σ H _ _ hR sR h fun ws C1 vs H1 ad1 q1 hR1 g1 r1 => ⟨by rw [prd_len r1, line_is]; exact q1.1, fun p np => by
    obtain ⟨h1, h2, h3⟩ := new_tup hR1 r1 np
    exact k _ _ _ _ _ q1.2 h1 (g1.trans h2) h3⟩⟩
def frz (s : Nat) (ds : List Dt) : List W → Option (List Dt)
  | [] => some []
  | .d x :: ws => (frz s ds ws).map (x :: ·)
  | .o i :: ws => if i = s then (frz s ds ws).map (Dt.lst ds :: ·) else none
theorem frz_at {ad : List Addr} {C : Cs} {H : Hp} {s : Nat} {ds : List Dt} (h : HeapR K ad C H) (hc : C[s]? = some (.lst (ds.map W.d))) : ∀ {ws : List W} {vs : List V} {es : List Dt}, frz s ds ws = some es → RepWs K (low ad C H) ad vs ws → RepWs K (low ad (C.set s .fz) H) ad vs (es.map W.d)
  | [], _, es, e, r => by cases e; cases r; exact .nil
  | .d x :: ws, _, es, e, r => by
    cases r with
    | cons r t =>
      unfold frz at e
      obtain ⟨es', e1, rfl⟩ := Option.map_eq_some_iff.mp e
      exact .cons (At.same low_fz _ _ r) (frz_at h hc e1 t)
  | .o i :: ws, _, es, e, r => by
    cases r with
    | cons r t =>
      unfold frz at e
      split at e
      · rename_i ei
        subst ei
        obtain ⟨es', e1, rfl⟩ := Option.map_eq_some_iff.mp e
        obtain ⟨a, ha, rfl⟩ := r
        exact .cons (fz_lst h ha hc) (frz_at h hc e1 t)
      · cases e
def tTupF (t : TA) : TE := tTup t
theorem pe_tupF {X : Cx} {e : Expr} {t : TA} (h : PE X e (tTup t)) : PE X e (tTupF t) := h
def dTupF (a : TDA) : TD := fun ρ C Q => a ρ C fun ws C1 => ws.length ≤ 16777216 ∧ ((∃ ds, allD ws = some ds ∧ Q (.d (.tup ds)) C1) ∨ ∃ s ds es, C1[s]? = some (.lst (ds.map W.d)) ∧ frz s ds ws = some es ∧ Q (.d (.tup es)) (C1.set s .fz))
instance {t : TA} {d : TDA} [a : SimA K t d] : SimE K (tTupF t) (dTupF d) := ⟨fun ρ C ad σ H Qd Q hR sR h k =>
  a.run ρ C ad σ H _ _ hR sR h fun ws C1 vs H1 ad1 q1 hR1 g1 r1 => ⟨by rw [prd_len r1, line_is]; exact q1.1, fun p np => by
    rcases q1.2 with ⟨ds, e, q⟩ | ⟨s, ds, es, hc, e, q⟩
    · rw [allD_of e] at r1
      exact k _ _ _ _ _ q (hR1.same (same_upd np)) (g1.trans (grw_same (same_upd np))) (put_tup hR1 np r1)
    · obtain ⟨hR2, g2⟩ := hR1.fz (i := s)
      exact k _ _ _ _ _ q (hR2.same (same_upd np)) (g1.trans (g2.trans (grw_same (same_upd np)))) (put_tup hR2 np (frz_at hR1 hc e r1))⟩⟩
end
end BK

namespace BK
open PySem PySem.Spec PyProof.Rows L2
section
variable {K : PySem.W.Frag}
/-! ## a tuple's slice -/
theorem q_slT (K : PySem.W.Frag) {X : Cx} (hK : X.K = K := by rfl) : SlR X (rSlA K) := hK ▸ sl_tupA
def cutD (ds : List Dt) (lo hi : Option Int) : List Dt := (ds.drop (HT.sIx ds.length 0 lo)).take (HT.sIx ds.length ds.length hi - HT.sIx ds.length 0 lo)
def dSlT : W → Option Int → Option Int → Cs → (W → Cs → Prop) → Prop := fun x lo hi C Q => match x with
  | .d (.tup ds) => Q (.d (.tup (cutD ds lo hi))) C
  | _ => False
instance : LowSl K (rSlA K) dSlT := ⟨fun x lo hi C ad v H Qd Q hR r h k => by
  unfold dSlT at h
  split at h
  · rename_i ds
    have r2 : At K _ v (.tup ds) := r
    unfold At at r2
    obtain ⟨p, xs, rfl, h1, h2⟩ := r2
    have h3 : SqT K H p xs := sameT (low_same _ _ _) h1
    have ln := h2.len
    refine ⟨p, xs, rfl, h3, fun e => ?_, fun _ a na => ?_⟩
    · have : cutD ds lo hi = ds := by
        unfold cutD
        rw [← ln, e.1, e.2, List.drop_zero, Nat.sub_zero, ln, List.take_length]
      rw [this] at h
      exact k _ C _ H ad h hR .refl r
    · have hr : RepWs K (low ad C H) ad (cutV xs lo hi) ((cutD ds lo hi).map W.d) := by
        unfold cutV cutD
        rw [ln, List.map_take, List.map_drop]
        exact prd_take2 (prd_drop2 (rep_ats h2) _) _
      exact k _ C _ _ ad h (hR.same (same_upd na)) (grw_same (same_upd na)) (put_tup hR na hr)
  · exact h.elim⟩
/-! ## the sum of a row -/
def rSumT (K : PySem.W.Frag) : List V → Hp → VK → Prop := fun vs H Q => ∃ (a : Addr) (ns : List Int), vs = [V.ref a] ∧ SqT K H a (ns.map V.int) ∧ Q (.int ns.sum) H
def rSumA (K : PySem.W.Frag) : List V → Hp → VK → Prop := fun vs H Q => rSum K vs H Q ∨ rSumT K vs H Q
theorem cr_sumT {X : Cx} (hc : X.calm = true) : CallR X (.builtin "sum") (rSumT X.K) := by
  intro pins s σ H vs us Q J r h
  obtain ⟨a, ns, rfl, hs, q⟩ := h
  obtain ⟨its, rv, ht, _⟩ := J.tuple hs
  rw [Vals.ref1 r]
  have hi : IntsAre its ns := rv.ints
  obtain ⟨xs, hx⟩ := hi.allInts.items
  have hn : PySem.numsOf its.toArray.toList = ns := by rw [show its.toArray.toList = its from rfl, hi.numsOf]
  have ht : s.heap.IsTuple a its.toArray := ht
  rw [hx] at ht hn
  rw [PySem.nums_intItems] at hn
  refine PySem.W.ktm_sumG (J.ok.hd hc) ht fun h' tk t' hk => ⟨.int ns.sum, H, J.kept hk, ⟨t', ?_⟩, q⟩
  rw [preSum_eq, List.take_of_length_le (by simp), hn]
theorem q_sumA (K : PySem.W.Frag) {X : Cx} (hc : X.calm = true) (hK : X.K = K := by rfl) : CallR X (.builtin "sum") (rSumA K) := by
  subst hK
  exact CallR.or (cr_sum hc) (cr_sumT hc)
def dSumA : List W → Cs → (W → Cs → Prop) → Prop := fun ws C Q => match ws with
  | [w] => match rowW C w with
    | some us => match selI us with
      | some ns => Q (.d (.int ns.sum)) C
      | none => False
    | none => False
  | _ => False
instance : LowA K (rSumA K) dSumA := ⟨fun ws C ad vs H Qd Q hR r h k => by
  unfold dSumA at h
  split at h
  · split at h
    · rename_i us e
      split at h
      · rename_i ns e2
        cases r with
        | cons r1 r2 =>
          cases r2
          obtain ⟨a, xs, rfl, hr, hx⟩ := row_of' hR r1 e
          rw [selI_of e2] at hx
          have := int_vs hx
          subst this
          rcases hr with hr | hr
          · exact .inl ⟨a, ns, rfl, hr, k _ C _ H ad h hR .refl rw_int⟩
          · exact .inr ⟨a, ns, rfl, hr, k _ C _ H ad h hR .refl rw_int⟩
      · exact h.elim
    · exact h.elim
  · exact h.elim⟩
/-! ## a < b, of things alike -/
def rLtD (K : PySem.W.Frag) : R2 := fun x y H Q => ∃ d e, Dp K H x d ∧ Dp K H y e ∧ PySem.W.alike d e = true ∧ d ≠ .none ∧ d.depth ≤ 60 ∧ Q (.bl (PySem.W.dataLt d e)) H
theorem q_ltD (K : PySem.W.Frag) {X : Cx} (hu : X.A.units + 64 < cLine) (hK : X.K = K := by rfl) : OpR X (compareOp .Lt) (rLtD K) := by
  subst hK
  intro pins s σ H x y v u Q J rx ry h
  obtain ⟨d, e, hd, he, al, nn, dp, q⟩ := h
  obtain ⟨as, r1⟩ := Dp.reads J d x v hd rx
  obtain ⟨bs, r2⟩ := Dp.reads J e y u he ry
  exact PySem.W.lt_data r1 r2 al nn (by have := Nat.min_le_left d.depth e.depth; omega) ⟨.bl _, H, J, rfl, q⟩
def dLtD : RD2 := fun x y C Q => ∃ a b, rds C x a ∧ rds C y b ∧ (Pln a = true ∧ Pln b = true ∧ deep a ≤ 60) ∧ PySem.W.alike a.py b.py = true ∧ a.py ≠ .none ∧ Q (.d (.bl (PySem.W.dataLt a.py b.py))) C
instance : Low2 K (rLtD K) dLtD := ⟨fun x y C ad v u H Qd Q hR rx ry h k => by
  obtain ⟨a, b, ha, hb, ⟨pa, pb, dp⟩, al, nn, q⟩ := h
  exact ⟨_, _, at_dp a v pa (rds_at hR a x v rx ha), at_dp b u pb (rds_at hR b y u ry hb), al, nn, by rw [depth_py]; exact dp, k _ C _ H ad q hR .refl rw_bl⟩⟩
end
end BK

namespace BK
open PySem PySem.Spec PyProof.Rows L2
section
variable {K : PySem.W.Frag}
/-- a written number if a test holds, else another one: told as one number -/
def tIfK (t : TT) (m n : Int) : TE := tIf t (tC (.int m)) (tC (.int n))
theorem pe_ifK {X : Cx} {c : Expr} {m n : Int} {j j' : Nat} {p p' pos : Pos} {t : TT} (h : PT X c t) : PE X (.IfExp c (.Constant (.int m) j p) (.Constant (.int n) j' p') pos) (tIfK t m n) := pe_ifExp h pe_int pe_int
def dIfK (d : TDT) (m n : Int) : TD := fun ρ C Q => d ρ C fun c C1 => Q (.d (.int (if c = true then m else n))) C1
instance {t : TT} {d : TDT} {m n : Int} [a : SimT K t d] : SimE K (tIfK t m n) (dIfK d m n) := ⟨fun ρ C ad σ H Qd Q hR sR h k => a.run ρ C ad σ H _ _ hR sR h fun c C1 H1 ad1 q1 hR1 g1 => by
  cases c with
  | true => exact k _ C1 _ H1 ad1 q1 hR1 g1 rw_int
  | false => exact k _ C1 _ H1 ad1 q1 hR1 g1 rw_int⟩
end
end BK

namespace BK
open PySem PySem.Spec PyProof.Rows L2
/-! ## closed literals over worths; repr of things with empty dicts within -/
section
variable {P : Program} {w : World} {K : PySem.W.Frag} {mg : Str → Option Value} {base : Heap}
theorem since_low {ad : List Addr} {C : Cs} {H H' : Hp} (hR : HeapR K ad C H) : Same (since H H') (low ad C H') := fun b o h => by
  obtain ⟨h1, h2⟩ := since_at h
  rw [low_of, h2]
  rintro ⟨i, x, z1, _⟩
  exact hR.tr i b z1 h1
def dLit (d : Dt) : TD := fun _ C Q => Q (.d d) C
def dLits (ds : List Dt) : TDA := fun _ C Q => Q (ds.map W.d) C
instance {d : Dt} : SimE K (tLit K d) (dLit d) := ⟨fun ρ C ad σ H Qd Q hR sR h k H' v s hv => k _ C v H' ad h (hR.same s) (grw_same s) (show At K _ v d from At.same (since_low hR) _ _ hv)⟩
theorem prd_ats {L : Hp} {ad : List Addr} : ∀ {vs : List V} {ds : List Dt}, Ats K L vs ds → RepWs K L ad vs (ds.map W.d)
  | vs, [], h => by
    unfold Ats at h
    subst h
    exact .nil
  | vs, d :: ds, h => by
    unfold Ats at h
    obtain ⟨v, us, rfl, h1, h2⟩ := h
    exact .cons h1 (prd_ats h2)
theorem ats_sm {H H' : Hp} (s : Same H H') : ∀ {vs : List V} {ds : List Dt}, Ats K H vs ds → Ats K H' vs ds
  | vs, [], h => by
    unfold Ats at h ⊢
    exact h
  | vs, d :: ds, h => by
    unfold Ats at h ⊢
    obtain ⟨v, us, rfl, h1, h2⟩ := h
    exact ⟨v, us, rfl, At.same s _ _ h1, ats_sm s h2⟩
instance {ds : List Dt} : SimA K (tLits K ds) (dLits ds) := ⟨fun ρ C ad σ H Qd Q hR sR h k H' vs s hv => k _ C vs H' ad h (hR.same s) (grw_same s) (prd_ats (ats_sm (since_low hR) hv))⟩
theorem lits_K {X : Cx} {es : List PySem.Expr} {ds : List Dt} (K : PySem.W.Frag) (h : PA X es (tLits X.K ds)) (hK : X.K = K := by rfl) : PA X es (tLits K ds) := hK ▸ h
theorem q_reprD (K : PySem.W.Frag) {X : Cx} (hm : Mods X.base) (hg : X.A.guards = some []) (hu : X.A.units + 64 < cLine) (hK : X.K = K := by rfl) : CallR X (.builtin "repr") (rReprD K) := hK ▸ call_reprD hm hg hu
def dReprD : List W → Cs → (W → Cs → Prop) → Prop := fun ws C Q => ∃ w a, ws = [w] ∧ rds C w a ∧ isRow a = true ∧ NeatD a ∧ (shw a).length ≤ 1000000 ∧ Q (.d (.str (cd (shw a)))) C
instance : LowA K (rReprD K) dReprD := ⟨fun ws C ad vs H Qd Q hR r h k => by
  obtain ⟨w, a, rfl, ha, hr, hn, hl, q⟩ := h
  cases r with
  | cons r1 r2 =>
    cases r2
    have at1 := rds_at hR a w _ r1 ha
    obtain ⟨p, xs, rfl, _⟩ := at_row at1 hr
    refine ⟨p, a, rfl, at1, hn, ?_⟩
    rw [← tx_cd (shw a)]
    exact k _ C _ H ad q hR .refl (rw_str hl)⟩
/-- an elder promise whose end is a new told thing -/
theorem fn_adaptS {CX : CXT} {k : Nat} {f : Addr} {fd : FuncData} {ps : List Str} {sp : Sp} {pre : List Dt → Prop} {F : List Dt → Dt} (hF : FnOk P w K mg base CX k f fd ps sp)
    (h : ∀ ds vs H Q E, pre ds → Ats K H vs ds → (∀ H' v, Same H H' → At K (since H H') v (F ds) → Q v H') → sp vs H Q E) : FnOk P w K mg base CX k f fd ps (lft K (pureR pre F)) :=
  hF.imp fun vs H Q E x => by
    obtain ⟨ws, C, ad, Qd, Xd, hR, rv, ⟨ds, hr, hp, q⟩, kd, kx⟩ := x
    exact h ds vs H Q E hp (rdss_at hR ds ws vs rv hr) fun H' v e r => kd _ C v H' ad q (hR.same e) (grw_same e) (show At K _ v (F ds) from At.same (since_low hR) _ _ r)
end
end BK

namespace BK
open PySem PySem.Spec PyProof.Rows L2
def topS (i : Nat) : Stmt := PySem.Challenge.pw_blindkeys_k31_what_is_a_stand.main.body.getD i (.Pass ⟨0, 0, 0, 0⟩)
abbrev s_is_row : Stmt := topS 8
abbrev N_is_row : List Str := ["thing"]
theorem sc_is_row : FnScope N_is_row ["thing"] (defScope s_is_row) := ⟨rfl, rfl, rfl, by decide +kernel, rfl, by decide +kernel, by decide +kernel⟩
abbrev s_is_whole : Stmt := topS 9
abbrev N_is_whole : List Str := ["thing", "low"]
theorem sc_is_whole : FnScope N_is_whole ["thing", "low"] (defScope s_is_whole) := ⟨rfl, rfl, rfl, by decide +kernel, rfl, by decide +kernel, by decide +kernel⟩
abbrev s_is_within : Stmt := topS 10
abbrev N_is_within : List Str := ["thing", "low", "high"]
theorem sc_is_within : FnScope N_is_within ["thing", "low", "high"] (defScope s_is_within) := ⟨rfl, rfl, rfl, by decide +kernel, rfl, by decide +kernel, by decide +kernel⟩
abbrev s_is_plain : Stmt := topS 11
abbrev N_is_plain : List Str := ["thing"]
theorem sc_is_plain : FnScope N_is_plain ["thing"] (defScope s_is_plain) := ⟨rfl, rfl, rfl, by decide +kernel, rfl, by decide +kernel, by decide +kernel⟩
abbrev s_is_clip : Stmt := topS 12
abbrev N_is_clip : List Str := ["thing"]
theorem sc_is_clip : FnScope N_is_clip ["thing"] (defScope s_is_clip) := ⟨rfl, rfl, rfl, by decide +kernel, rfl, by decide +kernel, by decide +kernel⟩
abbrev s_is_word : Stmt := topS 13
abbrev N_is_word : List Str := ["thing"]
theorem sc_is_word : FnScope N_is_word ["thing"] (defScope s_is_word) := ⟨rfl, rfl, rfl, by decide +kernel, rfl, by decide +kernel, by decide +kernel⟩
abbrev s_is_piece : Stmt := topS 17
abbrev N_is_piece : List Str := ["thing"]
theorem sc_is_piece : FnScope N_is_piece ["thing"] (defScope s_is_piece) := ⟨rfl, rfl, rfl, by decide +kernel, rfl, by decide +kernel, by decide +kernel⟩
abbrev s_is_text : Stmt := topS 18
abbrev N_is_text : List Str := ["thing", "many", "piece"]
theorem sc_is_text : FnScope N_is_text ["thing"] (defScope s_is_text) := ⟨rfl, rfl, rfl, by decide +kernel, rfl, by decide +kernel, by decide +kernel⟩
abbrev s_spans_of : Stmt := topS 19
abbrev N_spans_of : List Str := ["text", "spans", "start", "word", "times", "stop"]
theorem sc_spans_of : FnScope N_spans_of ["text"] (defScope s_spans_of) := ⟨rfl, rfl, rfl, by decide +kernel, rfl, by decide +kernel, by decide +kernel⟩
abbrev s_end_of : Stmt := topS 20
abbrev N_end_of : List Str := ["spans"]
theorem sc_end_of : FnScope N_end_of ["spans"] (defScope s_end_of) := ⟨rfl, rfl, rfl, by decide +kernel, rfl, by decide +kernel, by decide +kernel⟩
abbrev s_is_key : Stmt := topS 27
abbrev N_is_key : List Str := ["thing"]
theorem sc_is_key : FnScope N_is_key ["thing"] (defScope s_is_key) := ⟨rfl, rfl, rfl, by decide +kernel, rfl, by decide +kernel, by decide +kernel⟩
abbrev s_key_weight : Stmt := topS 28
abbrev N_key_weight : List Str := ["key"]
theorem sc_key_weight : FnScope N_key_weight ["key"] (defScope s_key_weight) := ⟨rfl, rfl, rfl, by decide +kernel, rfl, by decide +kernel, by decide +kernel⟩
abbrev s_weigh : Stmt := topS 29
abbrev N_weigh : List Str := ["keys", "key"]
theorem sc_weigh : FnScope N_weigh ["keys"] (defScope s_weigh) := ⟨rfl, rfl, rfl, by decide +kernel, rfl, by decide +kernel, by decide +kernel⟩
abbrev s_is_hand : Stmt := topS 30
abbrev N_is_hand : List Str := ["thing", "key"]
theorem sc_is_hand : FnScope N_is_hand ["thing"] (defScope s_is_hand) := ⟨rfl, rfl, rfl, by decide +kernel, rfl, by decide +kernel, by decide +kernel⟩
abbrev s_go : Stmt := topS 34
abbrev N_go : List Str := ["key", "lengths", "left", "right", "held", "kind", "many"]
theorem sc_go : FnScope N_go ["key", "lengths"] (defScope s_go) := ⟨rfl, rfl, rfl, by decide +kernel, rfl, by decide +kernel, by decide +kernel⟩
abbrev s_needed : Stmt := topS 35
abbrev N_needed : List Str := ["hand", "side", "lengths", "least", "key"]
theorem sc_needed : FnScope N_needed ["hand", "side", "lengths"] (defScope s_needed) := ⟨rfl, rfl, rfl, by decide +kernel, rfl, by decide +kernel, by decide +kernel⟩
abbrev s_reach : Stmt := topS 36
abbrev N_reach : List Str := ["hand", "side"]
theorem sc_reach : FnScope N_reach ["hand", "side"] (defScope s_reach) := ⟨rfl, rfl, rfl, by decide +kernel, rfl, by decide +kernel, by decide +kernel⟩
abbrev s_sourced : Stmt := topS 39
abbrev N_sourced : List Str := ["hand", "keys", "number", "key", "at"]
theorem sc_sourced : FnScope N_sourced ["hand"] (defScope s_sourced) := ⟨rfl, rfl, rfl, by decide +kernel, rfl, by decide +kernel, by decide +kernel⟩
abbrev s_short : Stmt := topS 45
abbrev N_short : List Str := ["lengths", "far"]
theorem sc_short : FnScope N_short ["lengths", "far"] (defScope s_short) := ⟨rfl, rfl, rfl, by decide +kernel, rfl, by decide +kernel, by decide +kernel⟩
abbrev s_more : Stmt := topS 46
abbrev N_more : List Str := ["lengths", "gain", "times"]
theorem sc_more : FnScope N_more ["lengths", "gain", "times"] (defScope s_more) := ⟨rfl, rfl, rfl, by decide +kernel, rfl, by decide +kernel, by decide +kernel⟩
abbrev s_gained : Stmt := topS 47
abbrev N_gained : List Str := ["ahead", "later"]
theorem sc_gained : FnScope N_gained ["ahead", "later"] (defScope s_gained) := ⟨rfl, rfl, rfl, by decide +kernel, rfl, by decide +kernel, by decide +kernel⟩
abbrev s_soonest : Stmt := topS 48
abbrev N_soonest : List Str := ["numbers", "number"]
theorem sc_soonest : FnScope N_soonest ["numbers"] (defScope s_soonest) := ⟨rfl, rfl, rfl, by decide +kernel, rfl, by decide +kernel, by decide +kernel⟩
abbrev s_pressed : Stmt := topS 49
abbrev N_pressed : List Str := ["hand", "lengths", "key"]
theorem sc_pressed : FnScope N_pressed ["hand", "lengths"] (defScope s_pressed) := ⟨rfl, rfl, rfl, by decide +kernel, rfl, by decide +kernel, by decide +kernel⟩
abbrev s_lengths_in : Stmt := topS 50
abbrev N_lengths_in : List Str := ["steps", "gain", "many", "rounds", "rest"]
theorem sc_lengths_in : FnScope N_lengths_in ["steps", "gain", "many"] (defScope s_lengths_in) := ⟨rfl, rfl, rfl, by decide +kernel, rfl, by decide +kernel, by decide +kernel⟩
abbrev s_Trip___init__ : Stmt := inClass (topS 51) 0
abbrev N_Trip___init__ : List Str := ["self", "hand", "lengths", "end"]
theorem sc_Trip___init__ : FnScope N_Trip___init__ ["self", "hand", "lengths", "end"] (defScope s_Trip___init__) := ⟨rfl, rfl, rfl, by decide +kernel, rfl, by decide +kernel, by decide +kernel⟩
abbrev s_Trip_run : Stmt := inClass (topS 51) 1
abbrev N_Trip_run : List Str := ["self"]
theorem sc_Trip_run : FnScope N_Trip_run ["self"] (defScope s_Trip_run) := ⟨rfl, rfl, rfl, by decide +kernel, rfl, by decide +kernel, by decide +kernel⟩
abbrev s_Trip_step : Stmt := inClass (topS 51) 2
abbrev N_Trip_step : List Str := ["self", "near", "later", "side", "gain", "held"]
theorem sc_Trip_step : FnScope N_Trip_step ["self"] (defScope s_Trip_step) := ⟨rfl, rfl, rfl, by decide +kernel, rfl, by decide +kernel, by decide +kernel⟩
abbrev s_Trip_close : Stmt := inClass (topS 51) 3
abbrev N_Trip_close : List Str := ["self", "many", "gain"]
theorem sc_Trip_close : FnScope N_Trip_close ["self"] (defScope s_Trip_close) := ⟨rfl, rfl, rfl, by decide +kernel, rfl, by decide +kernel, by decide +kernel⟩
abbrev s_Trip_jump : Stmt := inClass (topS 51) 4
abbrev N_Trip_jump : List Str := ["self", "at", "gain", "rounds", "steps", "step", "side"]
theorem sc_Trip_jump : FnScope N_Trip_jump ["self"] (defScope s_Trip_jump) := ⟨rfl, rfl, rfl, by decide +kernel, rfl, by decide +kernel, by decide +kernel⟩
abbrev s_Trip_lasting : Stmt := inClass (topS 51) 5
abbrev N_Trip_lasting : List Str := ["self", "side", "at", "gain", "low", "step"]
theorem sc_Trip_lasting : FnScope N_Trip_lasting ["self", "side", "at", "gain"] (defScope s_Trip_lasting) := ⟨rfl, rfl, rfl, by decide +kernel, rfl, by decide +kernel, by decide +kernel⟩
abbrev s_Trip_leap : Stmt := inClass (topS 51) 6
abbrev N_Trip_leap : List Str := ["self", "steps", "gain", "rounds", "many"]
theorem sc_Trip_leap : FnScope N_Trip_leap ["self", "steps", "gain", "rounds"] (defScope s_Trip_leap) := ⟨rfl, rfl, rfl, by decide +kernel, rfl, by decide +kernel, by decide +kernel⟩
abbrev s_trip_of : Stmt := topS 52
abbrev N_trip_of : List Str := ["hand", "lengths", "end", "trip"]
theorem sc_trip_of : FnScope N_trip_of ["hand", "lengths", "end"] (defScope s_trip_of) := ⟨rfl, rfl, rfl, by decide +kernel, rfl, by decide +kernel, by decide +kernel⟩
abbrev s_is_part : Stmt := topS 55
abbrev N_is_part : List Str := ["thing"]
theorem sc_is_part : FnScope N_is_part ["thing"] (defScope s_is_part) := ⟨rfl, rfl, rfl, by decide +kernel, rfl, by decide +kernel, by decide +kernel⟩
abbrev s_is_play : Stmt := topS 56
abbrev N_is_play : List Str := ["thing", "part"]
theorem sc_is_play : FnScope N_is_play ["thing"] (defScope s_is_play) := ⟨rfl, rfl, rfl, by decide +kernel, rfl, by decide +kernel, by decide +kernel⟩
abbrev s_check_play : Stmt := topS 57
abbrev N_check_play : List Str := ["thing"]
theorem sc_check_play : FnScope N_check_play ["thing"] (defScope s_check_play) := ⟨rfl, rfl, rfl, by decide +kernel, rfl, by decide +kernel, by decide +kernel⟩
abbrev s_Road___init__ : Stmt := inClass (topS 58) 0
abbrev N_Road___init__ : List Str := ["self", "hand", "lengths", "times", "trip"]
theorem sc_Road___init__ : FnScope N_Road___init__ ["self", "hand", "lengths", "times"] (defScope s_Road___init__) := ⟨rfl, rfl, rfl, by decide +kernel, rfl, by decide +kernel, by decide +kernel⟩
abbrev s_Journey___init__ : Stmt := inClass (topS 61) 0
abbrev N_Journey___init__ : List Str := ["self", "play", "lengths", "hand", "times", "road"]
theorem sc_Journey___init__ : FnScope N_Journey___init__ ["self", "play", "lengths"] (defScope s_Journey___init__) := ⟨rfl, rfl, rfl, by decide +kernel, rfl, by decide +kernel, by decide +kernel⟩
abbrev s_is_stand : Stmt := topS 63
abbrev N_is_stand : List Str := ["thing"]
theorem sc_is_stand : FnScope N_is_stand ["thing"] (defScope s_is_stand) := ⟨rfl, rfl, rfl, by decide +kernel, rfl, by decide +kernel, by decide +kernel⟩
abbrev s_check_stand : Stmt := topS 64
abbrev N_check_stand : List Str := ["thing"]
theorem sc_check_stand : FnScope N_check_stand ["thing"] (defScope s_check_stand) := ⟨rfl, rfl, rfl, by decide +kernel, rfl, by decide +kernel, by decide +kernel⟩
abbrev s_lengths_of : Stmt := topS 65
abbrev N_lengths_of : List Str := ["stand", "text", "cursor", "clip"]
theorem sc_lengths_of : FnScope N_lengths_of ["stand"] (defScope s_lengths_of) := ⟨rfl, rfl, rfl, by decide +kernel, rfl, by decide +kernel, by decide +kernel⟩
abbrev s_Scene___init__ : Stmt := inClass (topS 66) 0
abbrev N_Scene___init__ : List Str := ["self", "stand", "play"]
theorem sc_Scene___init__ : FnScope N_Scene___init__ ["self", "stand", "play"] (defScope s_Scene___init__) := ⟨rfl, rfl, rfl, by decide +kernel, rfl, by decide +kernel, by decide +kernel⟩
abbrev s_scene_of : Stmt := topS 67
abbrev N_scene_of : List Str := ["stand", "play"]
theorem sc_scene_of : FnScope N_scene_of ["stand", "play"] (defScope s_scene_of) := ⟨rfl, rfl, rfl, by decide +kernel, rfl, by decide +kernel, by decide +kernel⟩
abbrev s_size_behind : Stmt := topS 68
abbrev N_size_behind : List Str := ["stand", "play", "scene"]
theorem sc_size_behind : FnScope N_size_behind ["stand", "play"] (defScope s_size_behind) := ⟨rfl, rfl, rfl, by decide +kernel, rfl, by decide +kernel, by decide +kernel⟩
abbrev s__law_spring : Stmt := topS 70
abbrev N__law_spring : List Str := ["script", "figures", "stir", "cell"]
theorem sc__law_spring : FnScope N__law_spring ["script"] (defScope s__law_spring) := ⟨rfl, rfl, rfl, by decide +kernel, rfl, by decide +kernel, by decide +kernel⟩
abbrev s__law_draw : Stmt := topS 71
abbrev N__law_draw : List Str := ["spring", "many", "found", "stir"]
theorem sc__law_draw : FnScope N__law_draw ["spring", "many"] (defScope s__law_draw) := ⟨rfl, rfl, rfl, by decide +kernel, rfl, by decide +kernel, by decide +kernel⟩
abbrev s__law_same : Stmt := topS 72
abbrev N__law_same : List Str := ["found", "due", "k"]
theorem sc__law_same : FnScope N__law_same ["found", "due"] (defScope s__law_same) := ⟨rfl, rfl, rfl, by decide +kernel, rfl, by decide +kernel, by decide +kernel⟩
abbrev s__law_lists : Stmt := topS 73
abbrev N__law_lists : List Str := ["thing", "inner"]
theorem sc__law_lists : FnScope N__law_lists ["thing"] (defScope s__law_lists) := ⟨rfl, rfl, rfl, by decide +kernel, rfl, by decide +kernel, by decide +kernel⟩
abbrev s__law_handed : Stmt := topS 74
abbrev N__law_handed : List Str := ["spring", "thing", "kind", "one"]
theorem sc__law_handed : FnScope N__law_handed ["spring", "thing"] (defScope s__law_handed) := ⟨rfl, rfl, rfl, by decide +kernel, rfl, by decide +kernel, by decide +kernel⟩
abbrev s__law_word : Stmt := topS 75
abbrev N__law_word : List Str := ["spring", "most", "kinds", "k"]
theorem sc__law_word : FnScope N__law_word ["spring", "most"] (defScope s__law_word) := ⟨rfl, rfl, rfl, by decide +kernel, rfl, by decide +kernel, by decide +kernel⟩
abbrev s__law_text : Stmt := topS 76
abbrev N__law_text : List Str := ["spring", "most", "wide", "times", "found", "k"]
theorem sc__law_text : FnScope N__law_text ["spring", "most", "wide", "times"] (defScope s__law_text) := ⟨rfl, rfl, rfl, by decide +kernel, rfl, by decide +kernel, by decide +kernel⟩
abbrev s__law_no_text : Stmt := topS 78
abbrev N__law_no_text : List Str := ["spring", "text", "at", "some", "wrong"]
theorem sc__law_no_text : FnScope N__law_no_text ["spring", "text"] (defScope s__law_no_text) := ⟨rfl, rfl, rfl, by decide +kernel, rfl, by decide +kernel, by decide +kernel⟩
abbrev s__law_no_stand : Stmt := topS 79
abbrev N__law_no_stand : List Str := ["spring", "stand", "text", "cursor", "clip", "size", "some", "word", "times"]
theorem sc__law_no_stand : FnScope N__law_no_stand ["spring", "stand"] (defScope s__law_no_stand) := ⟨rfl, rfl, rfl, by decide +kernel, rfl, by decide +kernel, by decide +kernel⟩
abbrev s__law_refused : Stmt := topS 80
abbrev N__law_refused : List Str := ["thing", "e"]
theorem sc__law_refused : FnScope N__law_refused ["thing"] (defScope s__law_refused) := ⟨rfl, rfl, rfl, by decide +kernel, rfl, by decide +kernel, by decide +kernel⟩
abbrev s_law : Stmt := topS 81
abbrev N_law : List Str := ["script", "spring", "turn", "text", "size", "cursor", "stand", "handed", "odd", "stays", "word", "times"]
theorem sc_law : FnScope N_law ["script"] (defScope s_law) := ⟨rfl, rfl, rfl, by decide +kernel, rfl, by decide +kernel, by decide +kernel⟩
structure FnT (K : PySem.W.Frag) (mg : Str → Option Value) (x : Str) (st : Stmt) (ps : List Str) : Type where
  f : Addr
  fd : FuncData
  F : Fun K x x st f fd
  g : mg x = some (.ref f)
  b : Binds K fd ps []
structure ClT (K : PySem.W.Frag) (mg : Str → Option Value) (x : Str) : Type where
  C : Addr
  g : mg x = some (.ref C)
  cl : Cls K C
  mkk : PySem.W.makesIn K C = true
  kp : PySem.W.keepIn K (.ref C) = true
structure MeT (K : PySem.W.Frag) (C : Addr) (x q : Str) (st : Stmt) (ps : List Str) : Type where
  f : Addr
  fd : FuncData
  F : Fun K x q st f fd
  m : Meth K C x f
  b : Binds K fd ps []
structure Txt (K : PySem.W.Frag) (mg : Str → Option Value) (w : World) : Type where
  k_Trip : ClT K mg "Trip"
  n_Trip_hand : NoAttr K k_Trip.C "hand"
  n_Trip_far : NoAttr K k_Trip.C "far"
  n_Trip_end : NoAttr K k_Trip.C "end"
  n_Trip_gone : NoAttr K k_Trip.C "gone"
  n_Trip_here : NoAttr K k_Trip.C "here"
  n_Trip_legs : NoAttr K k_Trip.C "legs"
  n_Trip_moves : NoAttr K k_Trip.C "moves"
  n_Trip_steps : NoAttr K k_Trip.C "steps"
  n_Trip_latest : NoAttr K k_Trip.C "latest"
  n_Trip_dips : NoAttr K k_Trip.C "dips"
  k_Road : ClT K mg "Road"
  n_Road_behind : NoAttr K k_Road.C "behind"
  n_Road_far : NoAttr K k_Road.C "far"
  n_Road_legs : NoAttr K k_Road.C "legs"
  n_Road_row : NoAttr K k_Road.C "row"
  n_Road_tables : NoAttr K k_Road.C "tables"
  k_Journey : ClT K mg "Journey"
  n_Journey_parts : NoAttr K k_Journey.C "parts"
  n_Journey_ahead : NoAttr K k_Journey.C "ahead"
  n_Journey_there : NoAttr K k_Journey.C "there"
  n_Journey_roads : NoAttr K k_Journey.C "roads"
  n_Journey_size : NoAttr K k_Journey.C "size"
  k_Scene : ClT K mg "Scene"
  n_Scene_spans : NoAttr K k_Scene.C "spans"
  n_Scene_held : NoAttr K k_Scene.C "held"
  n_Scene_journey : NoAttr K k_Scene.C "journey"
  n_Scene_there : NoAttr K k_Scene.C "there"
  n_Scene_size : NoAttr K k_Scene.C "size"
  f_is_row : FnT K mg "is_row" s_is_row ["thing"]
  f_is_whole : FnT K mg "is_whole" s_is_whole ["thing", "low"]
  f_is_within : FnT K mg "is_within" s_is_within ["thing", "low", "high"]
  f_is_plain : FnT K mg "is_plain" s_is_plain ["thing"]
  f_is_clip : FnT K mg "is_clip" s_is_clip ["thing"]
  f_is_word : FnT K mg "is_word" s_is_word ["thing"]
  f_is_piece : FnT K mg "is_piece" s_is_piece ["thing"]
  f_is_text : FnT K mg "is_text" s_is_text ["thing"]
  f_spans_of : FnT K mg "spans_of" s_spans_of ["text"]
  f_end_of : FnT K mg "end_of" s_end_of ["spans"]
  f_is_key : FnT K mg "is_key" s_is_key ["thing"]
  f_key_weight : FnT K mg "key_weight" s_key_weight ["key"]
  f_weigh : FnT K mg "weigh" s_weigh ["keys"]
  f_is_hand : FnT K mg "is_hand" s_is_hand ["thing"]
  f_go : FnT K mg "go" s_go ["key", "lengths"]
  f_needed : FnT K mg "needed" s_needed ["hand", "side", "lengths"]
  f_reach : FnT K mg "reach" s_reach ["hand", "side"]
  f_sourced : FnT K mg "sourced" s_sourced ["hand"]
  f_short : FnT K mg "short" s_short ["lengths", "far"]
  f_more : FnT K mg "more" s_more ["lengths", "gain", "times"]
  f_gained : FnT K mg "gained" s_gained ["ahead", "later"]
  f_soonest : FnT K mg "soonest" s_soonest ["numbers"]
  f_pressed : FnT K mg "pressed" s_pressed ["hand", "lengths"]
  f_lengths_in : FnT K mg "lengths_in" s_lengths_in ["steps", "gain", "many"]
  f_Trip___init__ : MeT K k_Trip.C "__init__" "Trip.__init__" s_Trip___init__ ["self", "hand", "lengths", "end"]
  f_Trip_run : MeT K k_Trip.C "run" "Trip.run" s_Trip_run ["self"]
  f_Trip_step : MeT K k_Trip.C "step" "Trip.step" s_Trip_step ["self"]
  f_Trip_close : MeT K k_Trip.C "close" "Trip.close" s_Trip_close ["self"]
  f_Trip_jump : MeT K k_Trip.C "jump" "Trip.jump" s_Trip_jump ["self"]
  f_Trip_lasting : MeT K k_Trip.C "lasting" "Trip.lasting" s_Trip_lasting ["self", "side", "at", "gain"]
  f_Trip_leap : MeT K k_Trip.C "leap" "Trip.leap" s_Trip_leap ["self", "steps", "gain", "rounds"]
  f_trip_of : FnT K mg "trip_of" s_trip_of ["hand", "lengths", "end"]
  f_is_part : FnT K mg "is_part" s_is_part ["thing"]
  f_is_play : FnT K mg "is_play" s_is_play ["thing"]
  f_check_play : FnT K mg "check_play" s_check_play ["thing"]
  f_Road___init__ : MeT K k_Road.C "__init__" "Road.__init__" s_Road___init__ ["self", "hand", "lengths", "times"]
  f_Journey___init__ : MeT K k_Journey.C "__init__" "Journey.__init__" s_Journey___init__ ["self", "play", "lengths"]
  f_is_stand : FnT K mg "is_stand" s_is_stand ["thing"]
  f_check_stand : FnT K mg "check_stand" s_check_stand ["thing"]
  f_lengths_of : FnT K mg "lengths_of" s_lengths_of ["stand"]
  f_Scene___init__ : MeT K k_Scene.C "__init__" "Scene.__init__" s_Scene___init__ ["self", "stand", "play"]
  f_scene_of : FnT K mg "scene_of" s_scene_of ["stand", "play"]
  f_size_behind : FnT K mg "size_behind" s_size_behind ["stand", "play"]
  f__law_spring : FnT K mg "_law_spring" s__law_spring ["script"]
  f__law_draw : FnT K mg "_law_draw" s__law_draw ["spring", "many"]
  f__law_same : FnT K mg "_law_same" s__law_same ["found", "due"]
  f__law_lists : FnT K mg "_law_lists" s__law_lists ["thing"]
  f__law_handed : FnT K mg "_law_handed" s__law_handed ["spring", "thing"]
  f__law_word : FnT K mg "_law_word" s__law_word ["spring", "most"]
  f__law_text : FnT K mg "_law_text" s__law_text ["spring", "most", "wide", "times"]
  f__law_no_text : FnT K mg "_law_no_text" s__law_no_text ["spring", "text"]
  f__law_no_stand : FnT K mg "_law_no_stand" s__law_no_stand ["spring", "stand"]
  f__law_refused : FnT K mg "_law_refused" s__law_refused ["thing"]
  f_law : FnT K mg "law" s_law ["script"]
  b_abs : mg "abs" = none
  b_all : mg "all" = none
  b_bool : mg "bool" = none
  b_divmod : mg "divmod" = none
  b_enumerate : mg "enumerate" = none
  b_int : mg "int" = none
  b_isinstance : mg "isinstance" = none
  b_len : mg "len" = none
  b_list : mg "list" = none
  b_min : mg "min" = none
  b_range : mg "range" = none
  b_repr : mg "repr" = none
  b_str : mg "str" = none
  b_sum : mg "sum" = none
  b_tuple : mg "tuple" = none
  b_type : mg "type" = none
  x_NoPlay : ExT K mg "NoPlay"
  x_NoStand : ExT K mg "NoStand"
  x_KeysError : ExT K mg "KeysError"
  r_NoPlay : RzT K x_NoPlay.C
  r_NoStand : RzT K x_NoStand.C
  s_NoPlay_NoStand : PySem.W.subIn K (.ref x_NoPlay.C) (.ref x_NoStand.C) = some false
  s_NoPlay_KeysError : PySem.W.subIn K (.ref x_NoPlay.C) (.ref x_KeysError.C) = some true
  s_NoStand_NoPlay : PySem.W.subIn K (.ref x_NoStand.C) (.ref x_NoPlay.C) = some false
  s_NoStand_KeysError : PySem.W.subIn K (.ref x_NoStand.C) (.ref x_KeysError.C) = some true
  c_ALPHABET : ∃ t, mg "ALPHABET" = some (.str "abcdefghijklmnopqrstuvwxyz" t)
  c_FEW_ROUNDS : ∃ t, mg "FEW_ROUNDS" = some (.int 10 t)
  c_HEAVIEST : ∃ t, mg "HEAVIEST" = some (.int 60 t)
  c_LONGEST_WORD : ∃ t, mg "LONGEST_WORD" = some (.int 60 t)
  c_MOST_LETTERS : ∃ t, mg "MOST_LETTERS" = some (.int 1000000000000000000000000000000 t)
  c_MOST_PARTS : ∃ t, mg "MOST_PARTS" = some (.int 12 t)
  c_MOST_PIECES : ∃ t, mg "MOST_PIECES" = some (.int 40 t)
  c_MOST_PRESSINGS : ∃ t, mg "MOST_PRESSINGS" = some (.int 1000000000000000000000000000000 t)
  c_NUMBERS : IDict K w mg "NUMBERS" [("left", 0), ("right", 1), ("clip", 2)]
  c_SIDES : SDict K w mg "SIDES" [("left", "left"), ("rub", "left"), ("right", "right"), ("strike", "right"), ("copy", "right"), ("cut", "right")]
theorem pe_c_ALPHABET {X : Cx} {pos : Pos} (T : Txt X.K X.mg X.w) (hg : Gl X "ALPHABET" := by rfl) : PE X (.Name "ALPHABET" pos) (tC (.str "abcdefghijklmnopqrstuvwxyz")) := by
  obtain ⟨t, e⟩ := T.c_ALPHABET
  exact pe_glob hg e ⟨_, rfl⟩
theorem pe_c_FEW_ROUNDS {X : Cx} {pos : Pos} (T : Txt X.K X.mg X.w) (hg : Gl X "FEW_ROUNDS" := by rfl) : PE X (.Name "FEW_ROUNDS" pos) (tC (.int 10)) := by
  obtain ⟨t, e⟩ := T.c_FEW_ROUNDS
  exact pe_glob hg e ⟨_, rfl⟩
theorem pe_c_HEAVIEST {X : Cx} {pos : Pos} (T : Txt X.K X.mg X.w) (hg : Gl X "HEAVIEST" := by rfl) : PE X (.Name "HEAVIEST" pos) (tC (.int 60)) := by
  obtain ⟨t, e⟩ := T.c_HEAVIEST
  exact pe_glob hg e ⟨_, rfl⟩
theorem pe_c_LONGEST_WORD {X : Cx} {pos : Pos} (T : Txt X.K X.mg X.w) (hg : Gl X "LONGEST_WORD" := by rfl) : PE X (.Name "LONGEST_WORD" pos) (tC (.int 60)) := by
  obtain ⟨t, e⟩ := T.c_LONGEST_WORD
  exact pe_glob hg e ⟨_, rfl⟩
theorem pe_c_MOST_LETTERS {X : Cx} {pos : Pos} (T : Txt X.K X.mg X.w) (hg : Gl X "MOST_LETTERS" := by rfl) : PE X (.Name "MOST_LETTERS" pos) (tC (.int 1000000000000000000000000000000)) := by
  obtain ⟨t, e⟩ := T.c_MOST_LETTERS
  exact pe_glob hg e ⟨_, rfl⟩
theorem pe_c_MOST_PARTS {X : Cx} {pos : Pos} (T : Txt X.K X.mg X.w) (hg : Gl X "MOST_PARTS" := by rfl) : PE X (.Name "MOST_PARTS" pos) (tC (.int 12)) := by
  obtain ⟨t, e⟩ := T.c_MOST_PARTS
  exact pe_glob hg e ⟨_, rfl⟩
theorem pe_c_MOST_PIECES {X : Cx} {pos : Pos} (T : Txt X.K X.mg X.w) (hg : Gl X "MOST_PIECES" := by rfl) : PE X (.Name "MOST_PIECES" pos) (tC (.int 40)) := by
  obtain ⟨t, e⟩ := T.c_MOST_PIECES
  exact pe_glob hg e ⟨_, rfl⟩
theorem pe_c_MOST_PRESSINGS {X : Cx} {pos : Pos} (T : Txt X.K X.mg X.w) (hg : Gl X "MOST_PRESSINGS" := by rfl) : PE X (.Name "MOST_PRESSINGS" pos) (tC (.int 1000000000000000000000000000000)) := by
  obtain ⟨t, e⟩ := T.c_MOST_PRESSINGS
  exact pe_glob hg e ⟨_, rfl⟩
local macro_rules | `(tactic| walk_at "rd") => `(tactic| try dsimp only [tSeq, tNext, tRet, tRetN, tDrop, tIfS, tAsg, tPar, tAug, tVar, tC, tOp, tUn, tCB, tCons, tNil, tTup, tLst, tCall, tTest, tB, tNot, tAnd, tOr, tAndV, tOrV, tNotV, tIf, tIsN, tNotN, tSl, tPart, tNoPart, tM1, tM0, tBM, tBM0, tChain, gName, gTup, gUnl, gCons, gNil, List.nil_append, List.append_nil, List.cons_append])
local macro_rules | `(tactic| walk_at "dw") => `(tactic| try simp only [startD, List.map_cons, List.map_nil, List.length_cons, List.length_nil, List.length_map, List.replicate, List.nil_append, List.cons_append, List.append_nil, Nat.reduceAdd, Nat.reduceSub, Nat.reduceLeDiff, Nat.reduceLT, Nat.reduceMul, List.set_cons_zero, List.set_cons_succ, List.getElem?_cons_zero, List.getElem?_cons_succ, Option.map_some, Option.map_none, true_and, and_true, if_true, if_false, Bool.not_true, Bool.not_false, Bool.false_eq_true, reduceIte, reduceCtorEq, allD, wipeW,
  dAnd, dAndV, dApp, dAsg, dAug, dB, dB0, dBreak, dC, dCB, dCall, dCat, dChain, dCons, dCont, dCut, dDivmod, dDrop, dEnum, dEq, dExt, dFor, dI0, dIc, dIf, dIfS, dIn, dInt1, dIsNon, dIx, dLc, dLen, dListOf, dListT, dLst, dM1, dML, dML0, dMax2, dMin2, dName, dNe, dNext, dNil, dNoPart, dNot, dNotNon, dNotV, dOp, dOr, dOrV, dPar, dPart, dPop, dRep, dRet, dRetN, dRev, dRng1, dRng2, dSeq, dSeqI, dSl, dSlL, dSlS, dStrI, dStrOf, dTruth, dTup, dTupOf, dU, dUn, dVar, dYes, dgCons, dgNil, dgTup, newT, isL, Option.isSome_some, rowW_1, rowW_2, rowW_3, lstW_1, lstW_2, rowIt_1, rowIt_2, rowIt_3, ixW_1, ixW_2, ixW_3, ixW_4, lenW_1, lenW_2, lenW_3, lenW_4, truW_1, truW_2, truW_3, truW_4, truW_5, truW_6, truW_7, tyW_1, tyW_2, selB_1, selB_2, selI_1, selI_2, selT_1, selT_2, sEq_1, sEq_2, sEq_3, sEq_4, sEq_5, sEq_6, sEq_7, sEq_8, sEq_9, sEq_10, sEq_11, sEq_12, sEq_13, sEq_14, isNon_1, isNon_2, isNon_3, isNon_4, isNon_5, isNon_6, isNon_7, isT_1, dFold, dgSub, dDel, atI_0, atI_1, atI_2, atI_3, atI_4, setI_0, setI_1, setI_2, setI_3, List.set_set, dJoin, dPartn, dSplit, dStrip, dIntT, dJs, dFmt, dStrA, dIsi, dAddA_i, dAddA_s, dAddA_ll, dAddA_lo, dAddA_ol, dAddA_oo, dEqA, dNeA, sEq_ol, sEq_lo, sEq_ll, sEq_tt, sEq_lt, sEq_tl, dInSD, dNever, dRevL, dEnumO, dSlT, dSumA, dFld, dFldS, dFldAug, dMeth, dMake, dTupO, cl_rfl, dIfK, dLit, dLits])
section
variable {P : Program} {w : World} {K : PySem.W.Frag} {mg : Str → Option Value} {base : Heap}
/-! ## kinds -/
def spIsRow (K : PySem.W.Frag) : Sp := fun vs H Q _ => ∃ v d, vs = [v] ∧ At K H v d ∧ ∀ H', Same H H' → Q (.bl (isRow d)) H'
theorem ok_is_row (T : Txt K mg w) : FnOk P w K mg base CX0 1 T.f_is_row.f T.f_is_row.fd ["thing"] (spIsRow K) := by
  refine T.f_is_row.F.ok sc_is_row (fun vs H Q E h => ?_) (fun cdv A outer s H vs Q E hr h => ?_)
  · obtain ⟨v, d, rfl, _⟩ := h
    rfl
  obtain ⟨v, d, rfl, hv, q⟩ := h
  refine ⟨_, (pss_one (ps_ret (pe_cmpR op_in_ty (pe_callTy call_type1 (by rfl) T.b_type (by decide +kernel) (pa_cons (pv 0) pa_nil)) (pe_tup (pa_cons (pe_bltn (v := .ty "list") (by rfl) T.b_list (by decide +kernel) rfl) (pa_cons (pe_bltn (v := .ty "tuple") (by rfl) T.b_tuple (by decide +kernel) rfl) pa_nil))) (by rfl)))), ?_⟩
  walk_at "rd"
  refine ⟨v, rfl, v, d.ty, rfl, hv.ty, (by show 2 ≤ sizeLine; decide), fun p hp => ?_⟩
  refine ⟨d.ty, p, ["list", "tuple"], rfl, rfl, SqT.of upd_same, ty_known d, by decide, ?_⟩
  have e : decide (d.ty ∈ ["list", "tuple"]) = isRow d := by cases d <;> simp [Dt.ty, isRow]
  rw [e]
  exact q _ (same_upd hp)

def spIsWhole (K : PySem.W.Frag) : Sp := fun vs H Q _ => ∃ v d lo, vs = [v, .int lo] ∧ At K H v d ∧ Q (.bl (isWhole d lo)) H
theorem ok_is_whole (T : Txt K mg w) : FnOk P w K mg base CX0 1 T.f_is_whole.f T.f_is_whole.fd ["thing", "low"] (spIsWhole K) := by
  refine T.f_is_whole.F.ok sc_is_whole (fun vs H Q E h => ?_) (fun cdv A outer s H vs Q E hr h => ?_)
  · obtain ⟨v, d, lo, rfl, _⟩ := h
    rfl
  obtain ⟨v, d, lo, rfl, hv, q⟩ := h
  refine ⟨_, (pss_one (ps_ret (pe_and (pe_cmpR op_isTyB (pe_callTy call_type1 (by rfl) T.b_type (by decide +kernel) (pa_cons (pv 0) pa_nil)) (pe_bltn (v := .ty "int") (by rfl) T.b_int (by decide +kernel) rfl) (nomark _)) (pe_one (pe_cmpR op_ge (pv 0) (pv 1) (nomark _)))))), ?_⟩
  walk_at "rd"
  refine ⟨v, rfl, v, d.ty, rfl, hv.ty, d.ty, "int", rfl, rfl, _, rfl, ite2 (fun e => ?_) (fun e => ?_)⟩
  · have e2 := of_decide_eq_true e
    cases d with
    | int i =>
      unfold At at hv
      subst hv
      exact ⟨_, rfl, _, rfl, i, lo, rfl, rfl, q⟩
    | _ => exact absurd e2 (by simp [Dt.ty])
  · have e2 : isWhole d lo = false := by
      cases d with
      | int i => exact absurd (decide_eq_true rfl) e
      | _ => rfl
    rw [e2] at q
    exact q

def spIsPlain (K : PySem.W.Frag) : Sp := fun vs H Q _ => ∃ v d, vs = [v] ∧ At K H v d ∧ Q (.bl (isPlain d)) H
theorem ok_is_plain (T : Txt K mg w) : FnOk P w K mg base CX0 1 T.f_is_plain.f T.f_is_plain.fd ["thing"] (spIsPlain K) := by
  refine T.f_is_plain.F.ok sc_is_plain (fun vs H Q E h => ?_) (fun cdv A outer s H vs Q E hr h => ?_)
  · obtain ⟨v, d, rfl, _⟩ := h
    rfl
  obtain ⟨v, d, rfl, hv, q⟩ := h
  refine ⟨_, (pss_one (ps_ret (pe_and (pe_cmpR op_isTyB (pe_callTy call_type1 (by rfl) T.b_type (by decide +kernel) (pa_cons (pv 0) pa_nil)) (pe_bltn (v := .ty "str") (by rfl) T.b_str (by decide +kernel) rfl) (nomark _)) (pe_one (pe_cmpR op_eq (pe_m1 PySem.F.slot_str_strip PySem.F.type_str_strip mt_stripChars (pv 0) (pe_c_ALPHABET T)) pe_str (nomark _)))))), ?_⟩
  walk_at "rd"
  refine ⟨v, rfl, v, d.ty, rfl, hv.ty, d.ty, "str", rfl, rfl, _, rfl, ite2 (fun e => ?_) (fun e => ?_)⟩
  · have e2 := of_decide_eq_true e
    cases d with
    | str x =>
      unfold At at hv
      obtain ⟨rfl, hl⟩ := hv
      refine ⟨_, rfl, ⟨_, rfl⟩, _, _, rfl, rfl, (by rw [tx_len]; exact Nat.le_trans hl (by decide)), rfl, ?_⟩
      have e3 : decide (V.str (Txt.stripChars (tx x) ("abcdefghijklmnopqrstuvwxyz" : Str)) = V.str ("" : Str)) = isPlain (.str x) := by
        rw [← tx_alpha, ← tx_nil, Bool.eq_iff_iff, decide_eq_true_iff]
        have := strip_iff x alpha
        constructor
        · intro h
          exact this.mp (V.str.inj h)
        · intro h
          exact congrArg V.str (this.mpr h)
      rw [e3]
      exact q
    | _ => exact absurd e2 (by simp [Dt.ty])
  · have e2 : isPlain d = false := by
      cases d with
      | str i => exact absurd (decide_eq_true rfl) e
      | _ => rfl
    rw [e2] at q
    exact q

def spIsWithin (K : PySem.W.Frag) : Sp := fun vs H Q _ => ∃ v d lo hi, vs = [v, .int lo, .int hi] ∧ At K H v d ∧ Q (.bl (isWithin d lo hi)) H
theorem ok_is_within (T : Txt K mg w) : FnOk P w K mg base CX0 2 T.f_is_within.f T.f_is_within.fd ["thing", "low", "high"] (spIsWithin K) := by
  refine T.f_is_within.F.ok sc_is_within (fun vs H Q E h => ?_) (fun cdv A outer s H vs Q E hr h => ?_)
  · obtain ⟨v, d, lo, hi, rfl, _⟩ := h
    rfl
  obtain ⟨v, d, lo, hi, rfl, hv, q⟩ := h
  refine ⟨_, (pss_one (ps_ret (pe_and (pe_call (ok_is_whole T) (hr.mono (by first | decide | omega)) (by rfl) T.f_is_whole.g T.f_is_whole.F.kp T.f_is_whole.b .nil pass0 (pa_cons (pv 0) (pa_cons (pv 1) pa_nil))) (pe_one (pe_cmpR op_le (pv 0) (pv 2) (nomark _)))))), ?_⟩
  walk_at "rd"
  refine ⟨v, rfl, .int lo, rfl, v, d, lo, rfl, hv, _, rfl, ite2 (fun e => ?_) (fun e => ?_)⟩
  · cases d with
    | int i =>
      unfold At at hv
      subst hv
      rw [show isWithin (.int i) lo hi = (isWhole (.int i) lo && decide (i ≤ hi)) from rfl, e, Bool.true_and] at q
      exact ⟨_, rfl, _, rfl, i, hi, rfl, rfl, q⟩
    | _ => exact absurd e (by simp [isWhole])
  · have e2 : isWithin d lo hi = false := by
      cases d with
      | int i =>
        rw [show isWithin (.int i) lo hi = (isWhole (.int i) lo && decide (i ≤ hi)) from rfl, Bool.eq_false_iff.mpr e, Bool.false_and]
      | _ => rfl
    rw [e2] at q
    exact q

def spStr (f : Dt → Bool) (K : PySem.W.Frag) : Sp := fun vs H Q _ => ∃ v d, vs = [v] ∧ At K H v d ∧ Q (.bl (f d)) H
theorem plain_str {d : Dt} (h : isPlain d = true) : ∃ x, d = .str x ∧ x.all (alpha.contains ·) = true := by
  cases d with
  | str x => exact ⟨x, rfl, h⟩
  | _ => cases h
theorem ok_is_clip (T : Txt K mg w) : FnOk P w K mg base CX0 2 T.f_is_clip.f T.f_is_clip.fd ["thing"] (spStr isClip K) := by
  refine T.f_is_clip.F.ok sc_is_clip (fun vs H Q E h => ?_) (fun cdv A outer s H vs Q E hr h => ?_)
  · obtain ⟨v, d, rfl, _⟩ := h
    rfl
  obtain ⟨v, d, rfl, hv, q⟩ := h
  refine ⟨_, (pss_one (ps_ret (pe_and (pe_call (ok_is_plain T) (hr.mono (by first | decide | omega)) (by rfl) T.f_is_plain.g T.f_is_plain.F.kp T.f_is_plain.b .nil pass0 (pa_cons (pv 0) pa_nil)) (pe_one (pe_cmpR op_le (pe_callB (call_lenK K) (by rfl) T.b_len (by decide +kernel) (pa_cons (pv 0) pa_nil)) (pe_c_LONGEST_WORD T) (nomark _)))))), ?_⟩
  walk_at "rd"
  refine ⟨v, rfl, v, d, rfl, hv, _, rfl, ite2 (fun e => ?_) (fun e => ?_)⟩
  · obtain ⟨x, rfl, hx⟩ := plain_str e
    unfold At at hv
    obtain ⟨rfl, hl⟩ := hv
    refine ⟨_, rfl, len_tx hl ⟨_, _, rfl, rfl, ?_⟩⟩
    have e3 : decide ((x.length : Int) ≤ 60) = isClip (.str x) := by
      rw [show isClip (.str x) = (isPlain (.str x) && decide (x.length ≤ 60)) from rfl, e, Bool.true_and, Bool.eq_iff_iff, decide_eq_true_iff, decide_eq_true_iff]
      omega
    rw [← e3] at q
    exact q
  · have e2 : isClip d = false := by
      cases d with
      | str x =>
        rw [show isClip (.str x) = (isPlain (.str x) && decide (x.length ≤ 60)) from rfl, Bool.eq_false_iff.mpr e, Bool.false_and]
      | _ => rfl
    rw [e2] at q
    exact q
theorem ok_is_word (T : Txt K mg w) : FnOk P w K mg base CX0 3 T.f_is_word.f T.f_is_word.fd ["thing"] (spStr isWord K) := by
  refine T.f_is_word.F.ok sc_is_word (fun vs H Q E h => ?_) (fun cdv A outer s H vs Q E hr h => ?_)
  · obtain ⟨v, d, rfl, _⟩ := h
    rfl
  obtain ⟨v, d, rfl, hv, q⟩ := h
  refine ⟨_, (pss_one (ps_ret (pe_and (pe_call (ok_is_clip T) (hr.mono (by first | decide | omega)) (by rfl) T.f_is_clip.g T.f_is_clip.F.kp T.f_is_clip.b .nil pass0 (pa_cons (pv 0) pa_nil)) (pe_one (pe_cmpR op_ne (pv 0) pe_str (nomark _)))))), ?_⟩
  walk_at "rd"
  refine ⟨v, rfl, v, d, rfl, hv, _, rfl, ite2 (fun e => ?_) (fun e => ?_)⟩
  · cases d with
    | str x =>
      unfold At at hv
      obtain ⟨rfl, hl⟩ := hv
      refine ⟨_, rfl, rfl, ?_⟩
      have e3 : (!decide (V.str (tx x) = V.str ("" : Str))) = isWord (.str x) := by
        rw [show isWord (.str x) = (isClip (.str x) && decide (x ≠ [])) from rfl, e, Bool.true_and, ← tx_nil, Bool.eq_iff_iff, Bool.not_eq_true', decide_eq_false_iff_not, decide_eq_true_iff, tx_eq]
      rw [e3]
      exact q
    | _ => cases e
  · have e2 : isWord d = false := by
      cases d with
      | str x =>
        rw [show isWord (.str x) = (isClip (.str x) && decide (x ≠ [])) from rfl, Bool.eq_false_iff.mpr e, Bool.false_and]
      | _ => rfl
    rw [e2] at q
    exact q

/-! ## pieces -/
def spIsPiece (f : Dt → Bool) (K : PySem.W.Frag) : Sp := fun vs H Q _ => ∃ v d, vs = [v] ∧ At K H v d ∧ ∀ H', Same H H' → Q (.bl (f d)) H'
theorem ok_is_piece (T : Txt K mg w) : FnOk P w K mg base CX0 4 T.f_is_piece.f T.f_is_piece.fd ["thing"] (spIsPiece isPiece K) := by
  refine T.f_is_piece.F.ok sc_is_piece (fun vs H Q E h => ?_) (fun cdv A outer s H vs Q E hr h => ?_)
  · obtain ⟨v, d, rfl, _⟩ := h
    rfl
  obtain ⟨v, d, rfl, hv, q⟩ := h
  refine ⟨_, (pss_one (ps_ret (pe_and (pe_call (ok_is_row T) (hr.mono (by first | decide | omega)) (by rfl) T.f_is_row.g T.f_is_row.F.kp T.f_is_row.b .nil pass0 (pa_cons (pv 0) pa_nil)) (pe_and (pe_cmpR op_eq (pe_callB (call_lenK K) (by rfl) T.b_len (by decide +kernel) (pa_cons (pv 0) pa_nil)) pe_int (nomark _)) (pe_and (pe_call (ok_is_word T) (hr.mono (by first | decide | omega)) (by rfl) T.f_is_word.g T.f_is_word.F.kp T.f_is_word.b .nil pass0 (pa_cons (pe_ix ix_seq (pv 0) pe_int (fun _ _ => rfl)) pa_nil)) (pe_one (pe_call (ok_is_whole T) (hr.mono (by first | decide | omega)) (by rfl) T.f_is_whole.g T.f_is_whole.F.kp T.f_is_whole.b .nil pass0 (pa_cons (pe_ix ix_seq (pv 0) pe_int (fun _ _ => rfl)) (pa_cons pe_int pa_nil))))))))), ?_⟩
  walk_at "rd"
  refine ⟨v, rfl, v, d, rfl, hv, fun H1 s1 => ⟨_, rfl, ite2 (fun e => ?_) (fun e => ?_)⟩⟩
  · obtain ⟨a, xs, rfl, hrow, hit⟩ := at_row hv e
    refine ⟨_, rfl, len_row (hrow.same s1) ⟨rfl, _, rfl, ite2 (fun e2 => ?_) (fun e2 => ?_)⟩⟩
    · have h2 : xs.length = 2 := by have := V.int.inj (of_decide_eq_true e2); omega
      obtain ⟨x0, x1, rfl⟩ : ∃ x0 x1, xs = [x0, x1] := by
        match xs, h2 with
        | [x0, x1], _ => exact ⟨x0, x1, rfl⟩
      obtain ⟨d0, g0, a0⟩ := hit.at (i := 0) rfl
      obtain ⟨d1, g1, a1⟩ := hit.at (i := 1) rfl
      have hd : d.items = [d0, d1] := by
        have hl : d.items.length = 2 := by rw [← hit.len]; rfl
        match hm : d.items, hl with
        | [y0, y1], _ =>
          rw [hm] at g0 g1
          cases g0
          cases g1
          rfl
      refine ⟨_, rfl, ix_row (hrow.same s1) (atI_nat (j := 0) rfl) ⟨x0, d0, rfl, At.same s1 _ _ a0, _, rfl, ite2 (fun e3 => ?_) (fun e3 => ?_)⟩⟩
      · refine ⟨_, rfl, ix_row (hrow.same s1) (atI_nat (j := 1) rfl) ⟨x1, d1, 1, rfl, At.same s1 _ _ a1, ?_⟩⟩
        have e4 : isPiece d = isWhole d1 1 := by
          unfold isPiece
          rw [hd, e, Bool.true_and]
          show (isWord d0 && isWhole d1 1) = _
          rw [e3, Bool.true_and]
        rw [e4] at q
        exact q _ s1
      · have e4 : isPiece d = false := by
          unfold isPiece
          rw [hd, e, Bool.true_and]
          show (isWord d0 && isWhole d1 1) = _
          rw [Bool.eq_false_iff.mpr e3, Bool.false_and]
        rw [e4] at q
        exact q _ s1
    · have e4 : isPiece d = false := by
        unfold isPiece
        rw [e, Bool.true_and]
        split
        · rename_i y0 y1 hy
          exfalso
          refine e2 (decide_eq_true ?_)
          rw [hit.len, hy]
          rfl
        · rfl
      rw [e4] at q
      exact q _ s1
  · have e2 : isPiece d = false := by
      unfold isPiece
      rw [Bool.eq_false_iff.mpr e, Bool.false_and]
    rw [e2] at q
    exact q _ s1

theorem ok_is_text (T : Txt K mg w) : FnOk P w K mg base CX0 5 T.f_is_text.f T.f_is_text.fd ["thing"] (spIsPiece isText K) := by
  refine T.f_is_text.F.ok sc_is_text (fun vs H Q E h => ?_) (fun cdv A outer s H vs Q E hr h => ?_)
  · obtain ⟨v, d, rfl, _⟩ := h
    rfl
  obtain ⟨v, d, rfl, hv, q⟩ := h
  refine ⟨_, (pss_cons (ps_if (PW.pt (pw_or (pt_not (pt_val (pe_call (ok_is_row T) (hr.mono (by first | decide | omega)) (by rfl) T.f_is_row.g T.f_is_row.F.kp T.f_is_row.b .nil pass0 (pa_cons (pv 0) pa_nil)))) (pw_or1 (pt_cmpR op_gt (pe_callB (call_lenK K) (by rfl) T.b_len (by decide +kernel) (pa_cons (pv 0) pa_nil)) (pe_c_MOST_PIECES T) (nomark _))))) (pss_one (ps_ret pe_bl)) pss_nil)
      (pss_cons (ps_set (i := 1) sc_is_text.nd rfl (.inl rfl) pe_int)
      (pss_cons (ps_for PassesOwn.never rfl (pi_seq (pv 0)) (pg_name (i := 2) sc_is_text.nd rfl (.inl rfl))
        (pss_cons (ps_if (pt_not (pt_val (pe_call (ok_is_piece T) (hr.mono (by first | decide | omega)) (by rfl) T.f_is_piece.g T.f_is_piece.F.kp T.f_is_piece.b .nil pass0 (pa_cons (pv 2) pa_nil)))) (pss_one (ps_ret pe_bl)) pss_nil)
      (pss_one (ps_aug (i := 1) sc_is_text.nd rfl (.inl rfl) (pe_op op_mul (pe_callB (call_lenK K) (by rfl) T.b_len (by decide +kernel) (pa_cons (pe_ix ix_seq (pv 2) pe_int (fun _ _ => rfl)) pa_nil)) (pe_ix ix_seq (pv 2) pe_int (fun _ _ => rfl))) ip_add))))
      (pss_one (ps_ret (pe_cmpR op_le (pv 1) (pe_c_MOST_LETTERS T) (nomark _))))))), ?_⟩
  walk_at "rd"
  refine ⟨v, rfl, v, d, rfl, hv, fun H1 s1 => ⟨_, rfl, ?_⟩⟩
  cases hrw : isRow d with
  | false =>
    refine iteT (iteT ?_)
    have e4 : isText d = false := by unfold isText; rw [hrw]; rfl
    rw [e4] at q
    exact q _ s1
  | true =>
    obtain ⟨a, xs, rfl, hrow, hit⟩ := at_row hv hrw
    refine iteF ⟨_, rfl, len_row (hrow.same s1) ⟨_, _, rfl, rfl, _, rfl, ite2 (fun e2 => ?_) (fun e2 => ?_)⟩⟩
    · have e4 : isText d = false := by
        unfold isText
        have := of_decide_eq_true e2
        rw [hit.len] at this
        rw [decide_eq_false (show ¬ d.items.length ≤ 40 by omega), Bool.and_false]
        rfl
      rw [e4] at q
      exact q _ s1
    have h40 : d.items.length ≤ 40 := by
      rw [← hit.len]
      have : ¬ (40 < (xs.length : Int)) := fun z => e2 (decide_eq_true z)
      omega
    -- many = 0; the loop
    refine for_row (K := K) (a := a) (xs := xs) rfl (hrow.same s1) (Same.refl _)
      (fun i σ H2 => ∃ y, σ = [some (.ref a), some (.int ((d.items.map pieceSize).take i).sum), y] ∧ Same H1 H2 ∧ (d.items.take i).all isPiece = true)
      ⟨_, rfl, Same.refl _, rfl⟩ (fun i σ H2 _ ⟨_, _, s2, _⟩ => s2) ?_ ?_
    · rintro i x σ H2 hx ⟨y, rfl, s2, hall⟩
      obtain ⟨c, hc, ac⟩ := hit.at hx
      walk_at "rd"
      refine ⟨x, rfl, x, c, rfl, At.same (s1.trans s2) _ _ ac, fun H3 s3 => ⟨_, rfl, ?_⟩⟩
      cases hp : isPiece c with
      | false =>
        refine iteT ?_
        have e4 : isText d = false := by
          unfold isText
          have : d.items.all isPiece = false := by
            rw [List.all_eq_false]
            exact ⟨c, List.mem_of_getElem? hc, by rw [hp]; exact Bool.false_ne_true⟩
          rw [this, Bool.and_false]
          rfl
        rw [e4] at q
        exact q _ ((s1.trans s2).trans s3)
      | true =>
        refine iteF ?_
        obtain ⟨wd, n, e, hrc, hw, hn⟩ := isPiece_of hp
        obtain ⟨b, ys, rfl, rowb, itb⟩ := at_row (At.same ((s1.trans s2).trans s3) _ _ ac) hrc
        rw [e] at itb
        unfold Ats at itb
        obtain ⟨v1, us, rfl, g1, itb⟩ := itb
        unfold Ats at itb
        obtain ⟨v2, us, rfl, g2, itb⟩ := itb
        unfold Ats at itb
        subst itb
        unfold At at g1 g2
        obtain ⟨rfl, hl⟩ := g1
        subst g2
        have hb : -(2 ^ 64) < (wd.length : Int) ∧ (wd.length : Int) < 2 ^ 64 := by have := hw.2.2; omega
        refine ⟨_, rfl, _, rfl, ix_row rowb (atI_nat (j := 0) rfl) (len_tx hl ⟨_, rfl, ix_row rowb (atI_nat (j := 1) rfl) ⟨_, _, rfl, rfl, .inl hb, ?_⟩⟩)⟩
        refine ⟨_, _, rfl, rfl, some (.ref b), ?_, s2.trans s3, all_take_succ hall hc hp⟩
        have hz : (d.items.map pieceSize)[i]? = some ((wd.length : Int) * n) := by
          rw [List.getElem?_map, hc]
          show some (pieceSize c) = _
          unfold pieceSize
          rw [e]
        rw [isum_take hz]
        rfl
    · rintro σ H2 ⟨y, rfl, s2, hall⟩
      have hxl := hit.len
      rw [hxl, List.take_of_length_le (Nat.le_refl _)] at hall
      refine ⟨_, rfl, _, _, rfl, rfl, ?_⟩
      rw [hxl, List.take_of_length_le (by rw [List.length_map]; exact Nat.le_refl _)]
      have e4 : isText d = decide ((d.items.map pieceSize).sum ≤ 1000000000000000000000000000000) := by
        unfold isText
        rw [hrw, decide_eq_true h40, hall]
        rfl
      rw [e4] at q
      exact q _ (s1.trans s2)

def spCheckText (K : PySem.W.Frag) : Sp := fun vs H Q _ => ∃ v d, vs = [v] ∧ At K H v d ∧ isText d = true ∧ ∀ H', Same H H' → Q .non H'
def spCheckLetter (K : PySem.W.Frag) : Sp := fun vs H Q _ => ∃ c, vs = [.str (tx [c])] ∧ alpha.contains c = true ∧ Q .non H

/-! ## spans -/
def spSpansOf (K : PySem.W.Frag) : Sp := fun vs H Q _ => ∃ v ps, vs = [v] ∧ TextAt K H v ps ∧ Good ps ∧ ∀ H' a, Same H H' → SpansAt H' a (spansOf 0 ps) → Q (.ref a) H'
theorem ok_spans_of (T : Txt K mg w) : FnOk P w K mg base CX0 1 T.f_spans_of.f T.f_spans_of.fd ["text"] (spSpansOf K) := by
  refine T.f_spans_of.F.ok sc_spans_of (fun vs H Q E h => ?_) (fun cdv A outer s H vs Q E hr h => ?_)
  · obtain ⟨v, d, rfl, _⟩ := h
    rfl
  obtain ⟨v, ps, rfl, hv, hg, q⟩ := h
  obtain ⟨a, xs, rfl, hrow, hps⟩ := hv
  refine ⟨_, (pss_cons (ps_set (i := 1) sc_spans_of.nd rfl (.inl rfl) (pe_lst pa_nil))
      (pss_cons (ps_set (i := 2) sc_spans_of.nd rfl (.inl rfl) pe_int)
      (pss_cons (ps_for PassesOwn.never rfl (pi_seq (pv 0)) (pg_seq rfl (pgs_cons (pg_name (i := 3) sc_spans_of.nd rfl (.inl rfl)) (pgs_cons (pg_name (i := 4) sc_spans_of.nd rfl (.inl rfl)) pgs_nil)))
        (pss_cons (ps_set (i := 5) sc_spans_of.nd rfl (.inl rfl) (pe_op op_add (pv 2) (pe_op op_mul (pe_callB (call_lenK K) (by rfl) T.b_len (by decide +kernel) (pa_cons (pv 3) pa_nil)) (pv 4))))
      (pss_cons (ps_expr (pe_bm PySem.F.plainAttrs_list PySem.F.slot_list_append PySem.F.type_list_append mt_append (pv 1) (pa_cons (pe_tup (pa_cons (pv 2) (pa_cons (pv 5) (pa_cons (pv 3) pa_nil)))) pa_nil)))
      (pss_one (ps_set (i := 2) sc_spans_of.nd rfl (.inl rfl) (pv 5))))))
      (pss_one (ps_ret (pv 1)))))), ?_⟩
  walk_at "rd"
  refine ⟨Nat.zero_le _, fun o no => ?_⟩
  have s1 : Same H (upd H o (.lst [])) := same_upd no
  refine for_row (K := K) (a := a) (xs := xs) rfl hrow s1
    (fun i σ H2 => ∃ y1 y2 y3, σ = [some (.ref a), some (.ref o), some (.int (size (ps.take i) : Nat)), y1, y2, y3] ∧ Same H H2 ∧ SpansAt H2 o ((spansOf 0 ps).take i))
    ⟨none, none, none, rfl, s1, [], upd_same, .nil⟩ (fun i σ H2 _ ⟨_, _, _, _, s2, _⟩ => s2) ?_ ?_
  · rintro i x σ H2 hx ⟨y1, y2, y3, rfl, s2, us, ho, hus⟩
    obtain ⟨p, hp, b, rfl, rowb⟩ := prd_at hps hx
    have hb := hg.ok p (List.mem_of_getElem? hp)
    refine gSeq.row (rowb.same s2) rfl ?_
    walk_at "rd"
    have hl : p.1.length ≤ 60 := hb.1.2.2
    refine ⟨_, _, rfl, _, _, rfl, rfl, ?_⟩
    refine ⟨_, rfl, _, rfl, len_tx (by omega) ⟨_, rfl, _, _, rfl, rfl, .inl ⟨by omega, by omega⟩, _, _, rfl, rfl, ?_⟩⟩
    refine ⟨_, rfl, .inl ⟨rfl, _, SqL.of ho⟩, _, rfl, _, rfl, _, rfl, (by show 3 ≤ sizeLine; decide), fun t nt => ?_⟩
    have hot : o ≠ t := ne_of_none ho nt
    have e : ((size (ps.take (i + 1)) : Nat) : Int) = ((size (ps.take i) : Nat) : Int) + (p.1.length : Int) * (p.2 : Int) := by rw [size_take_succ ps hp, Int.natCast_add, Int.natCast_mul]
    have hxl := (List.getElem?_eq_some_iff.mp hx).1
    have hul : us.length ≤ 40 := by rw [prd_len hus, List.length_take, spansOf_len]; have := hg.few; omega
    refine ⟨_, _, _, rfl, rfl, by rw [upd_ne hot]; exact ho, Nat.lt_of_le_of_lt hul (by decide), _, rfl, some (.str (tx p.1)), some (.int p.2), some (.int (((size (ps.take i) : Nat) : Int) + (p.1.length : Int) * (p.2 : Int))), by rw [e]; rfl, ?_, ?_⟩
    · exact same_mut (s2.trans (same_upd nt)) no
    · refine ⟨_, upd_same, ?_⟩
      rw [List.take_add_one, spansOf_get ps 0 i p hp, Nat.zero_add]
      have ho2 : (upd H2 t (.tup [.int ((size (ps.take i) : Nat) : Int), .int (((size (ps.take i) : Nat) : Int) + (p.1.length : Int) * (p.2 : Int)), .str (tx p.1)])) o = some (.lst us) := by rw [upd_ne hot]; exact ho
      refine prd_snoc (prd_same (fun _ _ k => SpanAt.upd ho2 (SpanAt.same (same_upd nt) k)) hus) ?_
      refine SpanAt.upd ho2 ⟨t, rfl, ?_⟩
      rw [upd_same]
      show some (HO.tup [.int ((size (ps.take i) : Nat) : Int), .int (((size (ps.take i) : Nat) : Int) + (p.1.length : Int) * (p.2 : Int)), .str (tx p.1)]) = some (HO.tup [.int ((size (ps.take i) : Nat) : Int), .int ((size (ps.take i) + p.1.length * p.2 : Nat) : Int), .str (tx p.1)])
      rw [Int.natCast_add, Int.natCast_mul]
  · rintro σ H2 ⟨y1, y2, y3, rfl, s2, hsp⟩
    refine ⟨_, rfl, q _ _ s2 ?_⟩
    rwa [List.take_of_length_le (by rw [spansOf_len, prd_len hps]; exact Nat.le_refl _)] at hsp

def spEndOf (K : PySem.W.Frag) : Sp := fun vs H Q _ => ∃ a ps, vs = [.ref a] ∧ SpansAt H a (spansOf 0 ps) ∧ Q (.int (size ps : Nat)) H
theorem ok_end_of (T : Txt K mg w) : FnOk P w K mg base CX0 1 T.f_end_of.f T.f_end_of.fd ["spans"] (spEndOf K) := by
  refine T.f_end_of.F.ok sc_end_of (fun vs H Q E h => ?_) (fun cdv A outer s H vs Q E hr h => ?_)
  · obtain ⟨a, ps, rfl, _⟩ := h
    rfl
  obtain ⟨a, ps, rfl, ⟨us, ha, hus⟩, q⟩ := h
  refine ⟨_, (pss_one (ps_ret (pe_ifExp (pt_truth (pv 0) (by intro _; rfl)) (pe_ix ix_seq (pe_ix ix_seq (pv 0) (pe_un un_neg pe_int) (fun _ _ => rfl)) pe_int (fun _ _ => rfl)) pe_int))), ?_⟩
  walk_at "rd"
  refine ⟨_, rfl, _, .inl ⟨us, SqL.of ha, rfl⟩, ?_⟩
  by_cases hps : ps = []
  · subst hps
    cases hus
    exact iteF q
  · obtain ⟨p, s0, h1, h2⟩ := spansOf_last hps
    have hne : us ≠ [] := fun z => by
      subst z
      cases hus2 : spansOf 0 ps with
      | nil => rw [hus2] at h2; cases h2
      | cons x r => rw [hus2] at hus; cases hus
    have e : (!us.isEmpty) = true := by cases us with
      | nil => exact absurd rfl hne
      | cons _ _ => rfl
    rw [e]
    refine iteT ⟨_, rfl, _, rfl, ?_⟩
    obtain ⟨ys, x, rfl⟩ : ∃ ys x, us = ys ++ [x] := ⟨us.dropLast, us.getLast hne, (List.dropLast_concat_getLast hne).symm⟩
    refine ix_lst ha (atI_last ys x) ?_
    have hx : (ys ++ [x])[ys.length]? = some x := by simp
    obtain ⟨y, hy, b, rfl, hb⟩ := prd_at hus hx
    have hl := prd_len hus
    have ey : y = (s0, size ps, p.1) := by
      rw [List.getLast?_eq_getElem?, ← hl] at h2
      have : (ys ++ [V.ref b]).length - 1 = ys.length := by simp
      rw [this, hy] at h2
      exact Option.some.inj h2
    subst ey
    exact ix_row (.inr (SqT.of hb)) (atI_nat (j := 1) rfl) q

/-! ## words again and again -/
def spStretch (K : PySem.W.Frag) : Sp := fun vs H Q _ => ∃ (x : List Nat) (a m : Nat), vs = [.str (tx x), .int a, .int m] ∧ x ≠ [] ∧ x.length ≤ 60 ∧ m ≤ 2000 ∧ Q (.str (tx (cyc x a m))) H
def spAmong (K : PySem.W.Frag) : Sp := fun vs H Q _ => ∃ (x : List Nat) (c m : Nat), vs = [.str (tx x), .str (tx [c]), .int m] ∧ x ≠ [] ∧ x.length ≤ 60 ∧ ∀ H', Same H H' → Q (.int ((x.count c * (m / x.length) + (x.take (m % x.length)).count c : Nat) : Int)) H'

/-! ## looks -/
def GoodW (ps : Pcs) : Prop := ∀ p ∈ ps, p.1 ≠ [] ∧ p.1.length ≤ 60
theorem good_w {ps : Pcs} (h : Good ps) : GoodW ps := fun p hp => ⟨(h.ok p hp).1.2.1, (h.ok p hp).1.2.2⟩
def spLook (K : PySem.W.Frag) : Sp := fun vs H Q _ => ∃ a ps place many, vs = [.ref a, .int ((place : Nat) : Int), .int ((many : Nat) : Int)] ∧ SpansAt H a (spansOf 0 ps) ∧ GoodW ps ∧ ps.length ≤ 40 ∧ many ≤ 2000 ∧
  ∀ H', Same H H' → Q (.str (tx (((spell ps).drop place).take many))) H'
/-! ## the so-manieth of a sign in a word again and again -/
def spNthAgain (K : PySem.W.Frag) : Sp := fun vs H Q _ => ∃ (x : List Nat) (c k : Nat), vs = [.str (tx x), .str (tx [c]), .int (k : Int)] ∧ x ≠ [] ∧ x.length ≤ 60 ∧ c ∈ x ∧ ∀ H' (i : Nat), Same H H' → (∀ n, k < n * x.count c → IsNth (rep x n) c k i) → Q (.int (i : Int)) H'
/-! ## the interface of texts -/
def spLength (K : PySem.W.Frag) : Sp := fun vs H Q _ => ∃ v d, vs = [v] ∧ At K H v d ∧ isText d = true ∧ ∀ H', Same H H' → Q (.int (size (pcs d) : Nat)) H'
def spLetter (K : PySem.W.Frag) : Sp := fun vs H Q _ => ∃ (v : V) (d : Dt) (place c : Nat), vs = [v, .int (place : Int)] ∧ At K H v d ∧ isText d = true ∧ (spell (pcs d))[place]? = some c ∧ ∀ H', Same H H' → Q (.str (tx [c])) H'
theorem within_ok {i lo hi : Int} (h1 : lo ≤ i) (h2 : i ≤ hi) : isWithin (.int i) lo hi = true := by
  show (decide (lo ≤ i) && decide (i ≤ hi)) = true
  rw [decide_eq_true h1, decide_eq_true h2]
  rfl
theorem at_int {K : PySem.W.Frag} {H : Hp} {i : Int} : At K H (.int i) (.int i) := by
  unfold At
  rfl
def spLooks (K : PySem.W.Frag) : Sp := fun vs H Q _ => ∃ (v : V) (d : Dt) (place many : Nat), vs = [v, .int (place : Int), .int (many : Int)] ∧ At K H v d ∧ isText d = true ∧ place ≤ size (pcs d) ∧ many ≤ 2000 ∧ ∀ H', Same H H' → Q (.str (tx (((spell (pcs d)).drop place).take many))) H'
def spCount (K : PySem.W.Frag) : Sp := fun vs H Q _ => ∃ (v : V) (d : Dt) (c many : Nat), vs = [v, .str (tx [c]), .int (many : Int)] ∧ At K H v d ∧ isText d = true ∧ alpha.contains c = true ∧ many ≤ size (pcs d) ∧ ∀ H', Same H H' → Q (.int ((((spell (pcs d)).take many).count c : Nat) : Int)) H'
def spNth (K : PySem.W.Frag) : Sp := fun vs H Q _ => ∃ (v : V) (d : Dt) (c k : Nat), vs = [v, .str (tx [c]), .int (k : Int)] ∧ At K H v d ∧ isText d = true ∧ alpha.contains c = true ∧
  (∀ H' i, Same H H' → IsNth (spell (pcs d)) c k i → Q (.int (i : Int)) H') ∧ (∀ H', Same H H' → (spell (pcs d)).count c ≤ k → Q .non H')

/-! ## the law's own draws -/
theorem fresh_back' {H H' : Hp} {p : Addr} (e : Same H H') (h : H' p = none) : H p = none := e.free h
def Spr (H : Hp) (p : Addr) : Prop := ∃ F S C : Int, H p = some (.lst [.int F, .int S, .int C]) ∧ 0 ≤ F ∧ 0 ≤ S ∧ S < 2305843009213693951 ∧ 0 ≤ C
/-- all but the spring at p is as it was -/
structure Go (p : Addr) (H H' : Hp) : Prop where
  keep : ∀ b o, b ≠ p → H b = some o → H' b = some o
  spr : Spr H' p
theorem Go.trans {p : Addr} {H H1 H2 : Hp} (a : Go p H H1) (b : Go p H1 H2) : Go p H H2 := ⟨fun c o hc h => b.keep c o hc (a.keep c o hc h), b.spr⟩
theorem Spr.same {p : Addr} {H H' : Hp} (h : Spr H p) (e : Same H H') : Spr H' p := by
  obtain ⟨F, S, C, h1, h2⟩ := h
  exact ⟨F, S, C, e _ _ h1, h2⟩
theorem Go.of_same {p : Addr} {H H' : Hp} (h : Spr H p) (e : Same H H') : Go p H H' := ⟨fun b o _ k => e b o k, h.same e⟩
theorem Go.refl {p : Addr} {H : Hp} (h : Spr H p) : Go p H H := ⟨fun _ _ _ k => k, h⟩
theorem Go.same {p : Addr} {H H1 H2 : Hp} (a : Go p H H1) (e : Same H1 H2) : Go p H H2 := a.trans (.of_same a.spr e)
theorem Spr.ne {p b : Addr} {H : Hp} (h : Spr H p) (hb : H b = none) : b ≠ p := fun z => by
  obtain ⟨F, S, C, h1, _⟩ := h
  rw [z, h1] at hb
  cases hb
theorem pow60 : (10 : Nat) ^ 60 ≤ 2 ^ 200 := by decide +kernel
theorem fig_step {F r : Int} {n : Nat} (h0 : 0 ≤ F) (h : F.natAbs < 2 ^ n) (r0 : 0 ≤ r) (hr : r < 1000000000000000000000000000000000000000000000000000000000000) : 0 ≤ F * 1000000000000000000000000000000000000000000000000000000000000 + r ∧ (F * 1000000000000000000000000000000000000000000000000000000000000 + r).natAbs < 2 ^ (n + 200) := by
  obtain ⟨f, rfl⟩ := Int.eq_ofNat_of_zero_le h0
  obtain ⟨g, rfl⟩ := Int.eq_ofNat_of_zero_le r0
  have e : ((f : Int) * 1000000000000000000000000000000000000000000000000000000000000 + (g : Int)) = ((f * 1000000000000000000000000000000000000000000000000000000000000 + g : Nat) : Int) := by
    rw [Int.natCast_add, Int.natCast_mul]
    rfl
  rw [e]
  refine ⟨Int.natCast_nonneg _, ?_⟩
  rw [Int.natAbs_natCast] at h ⊢
  have hg : g < 1000000000000000000000000000000000000000000000000000000000000 := by omega
  have h1 : f * 1000000000000000000000000000000000000000000000000000000000000 + g < (f + 1) * 1000000000000000000000000000000000000000000000000000000000000 := by
    rw [Nat.add_mul, Nat.one_mul]
    omega
  have h2 : (f + 1) * 1000000000000000000000000000000000000000000000000000000000000 ≤ 2 ^ n * 2 ^ 200 := Nat.mul_le_mul h pow60
  rw [Nat.pow_add]
  exact Nat.lt_of_lt_of_le h1 h2
theorem cut63 (xs : List V) (h : xs.length ≤ 63) : cutV xs none (some 63) = xs := by
  unfold cutV
  rw [HT.sIx_none, show HT.sIx xs.length xs.length (some 63) = min 63 xs.length from HT.sIx_nat xs.length xs.length 63, List.drop_zero, Nat.sub_zero, Nat.min_eq_right h, List.take_length]
def spSpring (K : PySem.W.Frag) : Sp := fun vs H Q _ => ∃ (a : Addr) (ns : List Int), vs = [.ref a] ∧ SqL K H a (ns.map V.int) ∧ ns.length ≤ 63 ∧ ∀ H' p, Same H H' → H p = none → Spr H' p → Q (.ref p) H'
theorem ok__law_spring (T : Txt K mg w) : FnOk P w K mg base CX0 1 T.f__law_spring.f T.f__law_spring.fd ["script"] (spSpring K) := by
  refine T.f__law_spring.F.ok sc__law_spring (fun vs H Q E h => ?_) (fun cdv A outer s H vs Q E hr h => ?_)
  · obtain ⟨v, d, rfl, _⟩ := h
    rfl
  obtain ⟨a, ns, rfl, hs, hlen, q⟩ := h
  refine ⟨_, (pss_cons (ps_set (i := 1) sc__law_spring.nd rfl (.inl rfl) pe_int)
      (pss_cons (ps_set (i := 2) sc__law_spring.nd rfl (.inl rfl) pe_int)
      (pss_cons (ps_for PassesOwn.never rfl (pi_list (pe_slice sl_list (pv 0) po_none (po_some pe_int))) (pg_name (i := 3) sc__law_spring.nd rfl (.inl rfl))
        (pss_cons (ps_if (pt_cmpR op_ge (pe_callB call_abs (by rfl) T.b_abs (by decide +kernel) (pa_cons (pv 3) pa_nil)) (pe_op op_pow pe_int pe_int) (nomark _)) (pss_one (ps_set (i := 1) sc__law_spring.nd rfl (.inl rfl) (pe_op op_add (pe_op op_mulW (pv 1) (pe_op op_pow pe_int pe_int)) (pe_op op_mod (pe_callB call_abs (by rfl) T.b_abs (by decide +kernel) (pa_cons (pv 3) pa_nil)) (pe_op op_pow pe_int pe_int))))) pss_nil)
      (pss_one (ps_set (i := 2) sc__law_spring.nd rfl (.inl rfl) (pe_op op_mod (pe_op op_add (pe_op op_add (pe_op op_mul (pv 2) pe_int) (pe_op op_mod (pv 3) pe_int)) pe_int) pe_int)))))
      (pss_one (ps_ret (pe_lst (pa_cons (pv 1) (pa_cons (pv 2) (pa_cons pe_int pa_nil))))))))), ?_⟩
  walk_at "rd"
  refine fr_list ?_
  walk_at "rd"
  refine ⟨_, rfl, 63, rfl, a, ns.map V.int, rfl, hs, fun b nb => ?_⟩
  rw [cut63 _ (by rw [List.length_map]; exact hlen)]
  refine ⟨b, rfl, ⟨_, SqL.of upd_same⟩, ForGo.list (xs := ns.map V.int)
    (fun i σ H2 => ∃ (F S : Int) (y : Option V), σ = [some (.ref a), some (.int F), some (.int S), y] ∧ H2 = upd H b (.lst (ns.map V.int)) ∧ 0 ≤ F ∧ F.natAbs < 2 ^ (200 * i + 1) ∧ 0 ≤ S ∧ S < 2305843009213693951)
    ⟨0, 88651, none, rfl, rfl, by decide, by decide, by decide, by decide⟩ (fun i σ H2 _ ⟨_, _, _, _, e, _⟩ => by rw [e]; exact SqL.of upd_same) ?_ ?_⟩
  · rintro i x σ H2 hx ⟨F, S, y, rfl, rfl, hF0, hF, hS0, hS⟩
    rw [List.getElem?_map] at hx
    obtain ⟨c, hc, rfl⟩ : ∃ c, ns[i]? = some c ∧ V.int c = x := by
      cases e : ns[i]? with
      | none => rw [e] at hx; cases hx
      | some c => rw [e] at hx; exact ⟨c, rfl, Option.some.inj hx⟩
    have hi : i < ns.length := (List.getElem?_eq_some_iff.mp hc).1
    have hab : 0 ≤ (if c < 0 then -c else c) := by split <;> omega
    have hm1 : 0 ≤ (if c < 0 then -c else c) % 1000000000000000000000000000000000000000000000000000000000000 := Int.emod_nonneg _ (by decide)
    have hm2 : (if c < 0 then -c else c) % 1000000000000000000000000000000000000000000000000000000000000 < 1000000000000000000000000000000000000000000000000000000000000 := Int.emod_lt_of_pos _ (by decide)
    have stp := fig_step hF0 hF hm1 hm2
    walk_at "rd"
    have h60 : (10 : Int) ^ (Int.toNat 60) = 1000000000000000000000000000000000000000000000000000000000000 := by decide +kernel
    have hs1 : 0 ≤ (S * 69069 + c % 2305843009213693921 + 7) % 2305843009213693951 := Int.emod_nonneg _ (by decide)
    have hs2 : (S * 69069 + c % 2305843009213693921 + 7) % 2305843009213693951 < 2305843009213693951 := Int.emod_lt_of_pos _ (by decide)
    have hpw : 2 ^ (200 * i + 1) ≤ 2 ^ (200 * (i + 1) + 1) := Nat.pow_le_pow_right (by decide) (by omega)
    refine ⟨_, rfl, _, rfl, ⟨_, _, rfl, rfl, ⟨by decide, by decide, by decide⟩, _, _, rfl, rfl, _, rfl, ite2 (fun e => ?_) (fun e => ?_)⟩⟩
    · refine ⟨_, rfl, _, _, rfl, rfl, ⟨by decide, by decide, by decide⟩, ?_⟩
      walk_at "rd"
      rw [h60]
      refine ⟨_, _, rfl, rfl, wide_mul hF (b := 200) (by decide +kernel) (by omega) (by decide) (by omega), ?_⟩
      refine ⟨_, rfl, _, rfl, ⟨_, _, rfl, rfl, ⟨by decide, by decide, by decide⟩, ?_⟩⟩
      walk_at "rd"
      rw [h60]
      refine ⟨_, _, rfl, rfl, (show (0 : Int) < 1000000000000000000000000000000000000000000000000000000000000 by decide), _, _, rfl, rfl, ?_⟩
      refine ⟨_, rfl, _, _, rfl, rfl, .inl ⟨by omega, by omega⟩, _, rfl, _, _, rfl, rfl, (show (0 : Int) < 2305843009213693921 by decide), _, _, rfl, rfl, _, _, rfl, rfl, _, _, rfl, rfl, (show (0 : Int) < 2305843009213693951 by decide), ?_⟩
      exact ⟨_, _, _, rfl, rfl, stp.1, Nat.lt_of_lt_of_le stp.2 (Nat.pow_le_pow_right (by decide) (by omega)), hs1, hs2⟩
    · refine ⟨_, rfl, _, _, rfl, rfl, .inl ⟨by omega, by omega⟩, _, rfl, _, _, rfl, rfl, (show (0 : Int) < 2305843009213693921 by decide), _, _, rfl, rfl, _, _, rfl, rfl, _, _, rfl, rfl, (show (0 : Int) < 2305843009213693951 by decide), ?_⟩
      exact ⟨_, _, _, rfl, rfl, hF0, Nat.lt_of_lt_of_le hF hpw, hs1, hs2⟩
  · rintro σ H2 ⟨F, S, y, rfl, rfl, hF0, hF, hS0, hS⟩
    walk_at "rd"
    refine ⟨_, rfl, _, rfl, (by show 3 ≤ sizeLine; decide), fun p np => ?_⟩
    refine q _ p (fun c o e => ?_) ?_ ⟨F, S, 0, upd_same, hF0, hS0, hS, Int.le_refl _⟩
    · rw [upd_ne (ne_of_none ((same_upd nb) c o e) np)]
      exact same_upd nb c o e
    · exact fresh_back' (same_upd nb) np

def spDraw : Sp := fun vs H Q _ => ∃ (p : Addr) (m : Int), vs = [.ref p, .int m] ∧ Spr H p ∧ 0 < m ∧ m.natAbs < 2 ^ 250 ∧ ∀ H' r, Go p H H' → 0 ≤ r → r < m → Q (.int r) H'
theorem go_set {p : Addr} {H : Hp} {F S C : Int} (h1 : 0 ≤ F) (h2 : 0 ≤ S) (h3 : S < 2305843009213693951) (h4 : 0 ≤ C) : Go p H (upd H p (.lst [.int F, .int S, .int C])) :=
  ⟨fun b o hb e => by rw [upd_ne hb]; exact e, F, S, C, upd_same, h1, h2, h3, h4⟩
theorem ok__law_draw (T : Txt K mg w) : FnOk P w K mg base CX0 1 T.f__law_draw.f T.f__law_draw.fd ["spring", "many"] spDraw := by
  refine T.f__law_draw.F.ok sc__law_draw (fun vs H Q E h => ?_) (fun cdv A outer s H vs Q E hr h => ?_)
  · obtain ⟨v, d, rfl, _⟩ := h
    rfl
  obtain ⟨p, m, rfl, ⟨F, S, C, hp, hF, hS, hS2, hC⟩, hm, hm2, q⟩ := h
  refine ⟨_, (pss_cons (ps_if (pt_cmpR op_gt (pe_ix ix_seq (pv 0) pe_int (fun _ _ => rfl)) pe_int (nomark _)) (pss_cons (ps_set (i := 2) sc__law_draw.nd rfl (.inl rfl) (pe_op op_mod (pe_ix ix_seq (pv 0) pe_int (fun _ _ => rfl)) (pv 1)))
      (pss_cons (ps_asg (pe_op op_fdivW (pe_ix ix_seq (pv 0) pe_int (fun _ _ => rfl)) (pv 1)) (pg_sub (pv 0) pe_int set_list))
      (pss_one (ps_ret (pv 2))))) pss_nil)
      (pss_cons (ps_asg (pe_op op_add (pe_ix ix_seq (pv 0) pe_int (fun _ _ => rfl)) pe_int) (pg_sub (pv 0) pe_int set_list))
      (pss_cons (ps_set (i := 3) sc__law_draw.nd rfl (.inl rfl) (pe_op op_mod (pe_op op_mul (pe_ix ix_seq (pv 0) pe_int (fun _ _ => rfl)) (pe_ix ix_seq (pv 0) pe_int (fun _ _ => rfl))) pe_int))
      (pss_cons (ps_asg (pe_op op_mod (pe_op op_add (pe_op op_add (pv 3) (pe_op op_mul (pe_op op_mul pe_int (pe_ix ix_seq (pv 0) pe_int (fun _ _ => rfl))) (pe_ix ix_seq (pv 0) pe_int (fun _ _ => rfl)))) pe_int) pe_int) (pg_sub (pv 0) pe_int set_list))
      (pss_one (ps_ret (pe_op op_mod (pe_op op_fdiv (pe_ix ix_seq (pv 0) pe_int (fun _ _ => rfl)) pe_int) (pv 1)))))))), ?_⟩
  walk_at "rd"
  have at0 : ∀ {a b c : V}, atI [a, b, c] 0 = some a := fun {a b c} => rfl
  refine ⟨_, rfl, ix_lst hp (at_of (j := 0) rfl rfl) ⟨_, _, rfl, rfl, _, rfl, ite2 (fun e => ?_) (fun e => ?_)⟩⟩
  · refine ⟨_, rfl, ix_lst hp (at_of (j := 0) rfl rfl) ⟨_, rfl, _, _, rfl, rfl, hm, ?_⟩⟩
    refine ⟨_, rfl, ix_lst hp (at_of (j := 0) rfl rfl) ⟨_, rfl, _, _, rfl, rfl, wide_div hm hm2 (by decide) (by decide), ?_⟩⟩
    refine ⟨_, rfl, p, _, 0, 0, rfl, rfl, hp, rfl, _, rfl, ?_⟩
    exact q _ _ (go_set (Int.ediv_nonneg hF (by omega)) hS hS2 hC) (Int.emod_nonneg _ (by omega)) (Int.emod_lt_of_pos _ hm)
  · have hq1 : 0 ≤ S * S % 2305843009213693951 := Int.emod_nonneg _ (by decide)
    have hz1 : 0 ≤ (S * S % 2305843009213693951 + 7919 * (C + 1) * S + 104729) % 2305843009213693951 := Int.emod_nonneg _ (by decide)
    have hz2 : (S * S % 2305843009213693951 + 7919 * (C + 1) * S + 104729) % 2305843009213693951 < 2305843009213693951 := Int.emod_lt_of_pos _ (by decide)
    have b1 : -(2 ^ 64) < S ∧ S < 2 ^ 64 := by omega
    refine ⟨_, rfl, ix_lst hp (at_of (j := 2) rfl rfl) ⟨_, _, rfl, rfl, ?_⟩⟩
    refine ⟨_, rfl, p, _, 2, 2, rfl, rfl, hp, rfl, ?_⟩
    have hp2 : (upd H p (.lst [.int F, .int S, .int (C + 1)])) p = some (.lst [.int F, .int S, .int (C + 1)]) := upd_same
    refine ⟨_, rfl, ix_lst hp2 (at_of (j := 1) rfl rfl) ⟨_, rfl, ix_lst hp2 (at_of (j := 1) rfl rfl) ⟨_, _, rfl, rfl, .inl b1, _, _, rfl, rfl, (show (0 : Int) < 2305843009213693951 by decide), ?_⟩⟩⟩
    refine ⟨_, rfl, _, rfl, ix_lst hp2 (at_of (j := 2) rfl rfl) ⟨_, _, rfl, rfl, .inl ⟨by decide, by decide⟩, _, rfl, ix_lst hp2 (at_of (j := 1) rfl rfl) ⟨_, _, rfl, rfl, .inr b1, _, _, rfl, rfl, _, _, rfl, rfl, _, _, rfl, rfl, (show (0 : Int) < 2305843009213693951 by decide), ?_⟩⟩⟩
    refine ⟨_, rfl, p, _, 1, 1, rfl, rfl, hp2, rfl, ?_⟩
    have hp3 : (upd (upd H p (.lst [.int F, .int S, .int (C + 1)])) p (.lst [.int F, .int ((S * S % 2305843009213693951 + 7919 * (C + 1) * S + 104729) % 2305843009213693951), .int (C + 1)])) p = some (.lst [.int F, .int ((S * S % 2305843009213693951 + 7919 * (C + 1) * S + 104729) % 2305843009213693951), .int (C + 1)]) := upd_same
    refine ⟨_, rfl, ix_lst hp3 (at_of (j := 1) rfl rfl) ⟨_, _, rfl, rfl, ⟨by decide, by decide⟩, _, rfl, _, _, rfl, rfl, hm, ?_⟩⟩
    refine q _ _ ?_ (Int.emod_nonneg _ (by omega)) (Int.emod_lt_of_pos _ hm)
    exact ⟨fun b o hb e => by rw [upd_ne hb, upd_ne hb]; exact e, F, _, _, upd_same, hF, hz1, hz2, by omega⟩

/-! ## drawn words and texts -/
theorem pow300 {m : Int} {n : Nat} (h0 : 0 ≤ m) (h : m ≤ (n : Int)) (hn : n < 2 ^ 250) : m.natAbs < 2 ^ 250 := by omega
theorem small300 {m : Int} (h0 : 0 ≤ m) (h : m ≤ 1000000) : m.natAbs < 2 ^ 250 := Nat.lt_of_le_of_lt (show m.natAbs ≤ 1000000 by omega) (by decide)
theorem k_ab : ("ab" : Str) = tx [97, 98] := by decide +kernel
theorem k_a : ("a" : Str) = tx [97] := by decide +kernel
theorem k_zy : ("zy" : Str) = tx [122, 121] := by decide +kernel
def Kind (x : List Nat) : Prop := x ≠ [] ∧ x.length ≤ 26 ∧ Plain x
theorem kinds4 {r : Int} (h0 : 0 ≤ r) (h : r < 4) : ∃ x, atI [V.str "ab", V.str "a", V.str "abcdefghijklmnopqrstuvwxyz", V.str "zy"] r = some (.str (tx x)) ∧ Kind x := by
  have : r = 0 ∨ r = 1 ∨ r = 2 ∨ r = 3 := by omega
  rcases this with rfl | rfl | rfl | rfl
  · exact ⟨[97, 98], by rw [k_ab]; rfl, by simp, by simp, by show List.all _ _ = true; decide⟩
  · exact ⟨[97], by rw [k_a]; rfl, by simp, by simp, by show List.all _ _ = true; decide⟩
  · exact ⟨alpha, by rw [← tx_alpha]; rfl, by simp [alpha], by simp [alpha], by show List.all _ _ = true; decide⟩
  · exact ⟨[122, 121], by rw [k_zy]; rfl, by simp, by simp, by show List.all _ _ = true; decide⟩
theorem plain_mem {x : List Nat} (h : Plain x) {c : Nat} (hc : c ∈ x) : alpha.contains c = true := List.all_eq_true.mp h c hc
def spWord : Sp := fun vs H Q _ => ∃ (p : Addr) (m : Int), vs = [.ref p, .int m] ∧ Spr H p ∧ 1 ≤ m ∧ m ≤ 100000 ∧ ∀ H' x, Go p H H' → x ≠ [] → (x.length : Int) ≤ m → Plain x → Q (.str (tx x)) H'
theorem ok__law_word (T : Txt K mg w) : FnOk P w K mg base CX0 2 T.f__law_word.f T.f__law_word.fd ["spring", "most"] spWord := by
  refine T.f__law_word.F.ok sc__law_word (fun vs H Q E h => ?_) (fun cdv A outer s H vs Q E hr h => ?_)
  · obtain ⟨v, d, rfl, _⟩ := h
    rfl
  obtain ⟨p, m, rfl, hp, hm, hm2, q⟩ := h
  refine ⟨_, (pss_cons (ps_set (i := 2) sc__law_word.nd rfl (.inr rfl) (pe_ix ix_seq (pe_lst (pa_cons pe_str (pa_cons pe_str (pa_cons pe_str (pa_cons pe_str pa_nil))))) (pe_call (ok__law_draw T) (hr.mono (by first | decide | omega)) (by rfl) T.f__law_draw.g T.f__law_draw.F.kp T.f__law_draw.b .nil pass0 (pa_cons (pv 0) (pa_cons pe_int pa_nil))) (fun _ _ => rfl)))
      (pss_one (ps_ret (pe_join pe_str (pe_lc (own := [("k", 3)]) rfl sc__law_word.nd (pi_range1 (by rfl) T.b_range (pa_cons (pe_op op_add pe_int (pe_call (ok__law_draw T) (hr.mono (by first | decide | omega)) (by rfl) T.f__law_draw.g T.f__law_draw.F.kp T.f__law_draw.b .nil pass0 (pa_cons (pv 0) (pa_cons (pv 1) pa_nil)))) pa_nil)) (blkOk_by (own := [("k", 3)]) (N := N__law_word) (sc := defScope s__law_word) (by decide +kernel)) (fun _ _ _ _ _ => (pg_name (i := 3) sc__law_word.nd rfl (.inl rfl))) (fun _ _ _ _ _ => pts_nil) (fun _ _ _ _ _ => (pe_ix (ix_seqK K) (pv 2) (pe_call (ok__law_draw T) (hr.mono (by first | decide | omega)) (by rfl) T.f__law_draw.g T.f__law_draw.F.kp T.f__law_draw.b .nil pass0 (pa_cons (pv 0) (pa_cons (pe_callB (call_lenK K) (by rfl) T.b_len (by decide +kernel) (pa_cons (pv 2) pa_nil)) pa_nil))) (fun _ _ => rfl)))))))), ?_⟩
  walk_at "rd"
  refine ⟨by show 4 ≤ sizeLine; decide, fun l nl => ?_⟩
  have g0 := Go.of_same hp (same_upd (o := .lst [V.str "ab", V.str "a", V.str "abcdefghijklmnopqrstuvwxyz", V.str "zy"]) nl)
  have hlp : l ≠ p := hp.ne nl
  refine ⟨_, rfl, p, 4, rfl, g0.spr, by decide, by decide, fun H1 r g1 r0 r4 => ?_⟩
  obtain ⟨x, hx, hk⟩ := kinds4 r0 r4
  refine ix_lst (g1.keep _ _ hlp upd_same) hx ⟨⟨_, rfl⟩, lc_rng1 ?_⟩
  walk_at "rd"
  refine ⟨_, rfl, _, rfl, p, m, rfl, g1.spr, by omega, small300 (by omega) (by omega), fun H2 n g2 n0 nm => ?_⟩
  refine ⟨_, _, rfl, rfl, _, rfl, by omega, by omega, fun D nD => ?_⟩
  have hDp : D ≠ p := g2.spr.ne nD
  have hn : (1 + n).toNat ≤ m.toNat := by omega
  refine LcGo.range (fun i H3 => Go p H2 H3 ∧ ∃ ws : List Nat, H3 D = some (.lst (ws.map fun c => V.str (tx [c]))) ∧ ws.length = i ∧ Plain ws)
    ⟨.of_same g2.spr (same_upd nD), [], upd_same, rfl, rfl⟩ ?_ ?_
  · rintro i H3 hi ⟨g3, ws, hD, hws, hpl⟩
    walk_at "rd"
    refine ⟨rfl, _, rfl, _, rfl, _, rfl, len_tx (by have := hk.2.1; omega) ⟨p, x.length, rfl, g3.spr, ?_, small300 (by omega) (by have := hk.2.1; omega), fun H4 r g4 r0 rl => ?_⟩⟩
    · have := List.length_pos_iff.mpr hk.1
      omega
    obtain ⟨k, rfl⟩ := Int.eq_ofNat_of_zero_le r0
    have hkl : k < x.length := by omega
    refine ix_tx (show x.length ≤ 1000000 by have := hk.2.1; omega) (at_ofA (j := k) rfl (List.getElem?_eq_getElem hkl)) ?_
    refine ⟨_, g4.keep _ _ hDp hD, ?_, ⟨fun b o hb e => ?_, ?_⟩, ws ++ [x[k]], ?_, ?_, ?_⟩
    · rw [List.length_map, hws]
      exact Nat.lt_of_lt_of_le (show i < 100000 by omega) (by decide)
    · rw [upd_ne (ne_of_none e nD)]
      exact g4.keep b o hb (g3.keep b o hb e)
    · obtain ⟨F, S, C, h1, h2⟩ := g4.spr
      exact ⟨F, S, C, by rw [upd_ne hDp.symm]; exact h1, h2⟩
    · rw [upd_same, List.map_append]
      rfl
    · rw [List.length_append, hws]
      rfl
    · show (ws ++ [x[k]]).all _ = true
      rw [List.all_append, show ws.all (alpha.contains ·) = true from hpl, List.all_cons, plain_mem hk.2.2 (List.getElem_mem hkl)]
      rfl
  · rintro H3 ⟨g3, ws, hD, hws, hpl⟩
    walk_at "rd"
    have hmap : (ws.map fun c => [c]).map tx = ws.map fun c => tx [c] := by rw [List.map_map]; rfl
    have hfl : (ws.map fun c => [c]).flatten = ws := by
      clear hpl hws hmap hD
      induction ws with
      | nil => rfl
      | cons c ws ih => rw [List.map_cons, List.flatten_cons, ih]; rfl
    refine ⟨tx [], D, (ws.map fun c => [c]).map tx, rfl, rfl, .inl (SqL.of ?_), ?_, ?_⟩
    · rw [hmap, List.map_map]
      exact hD
    · have e1 : (((ws.map fun c => [c]).map tx).map (·.length)) = (ws.map fun c => [c]).map (·.length) := by rw [List.map_map]; exact List.map_congr_left fun x _ => tx_len x
      rw [e1, sum_le_len, hfl, tx_len, List.length_nil, Nat.mul_zero, hws]
      omega
    · rw [join_tx, hfl]
      refine q _ _ (((g0.trans g1).trans g2).trans g3) (fun z => ?_) (by omega) hpl
      rw [z] at hws
      have : (1 + n).toNat = 0 := hws.symm
      omega

/-- a drawn text: a list of tuples, none of them the spring -/
def PcT (p : Addr) (H : Hp) (v : V) (x : List Nat × Nat) : Prop := ∃ b, v = .ref b ∧ b ≠ p ∧ H b = some (.tup [.str (tx x.1), .int (x.2 : Int)])
def TxtL (p : Addr) (H : Hp) (a : Addr) (ps : Pcs) : Prop := a ≠ p ∧ ∃ xs, H a = some (.lst xs) ∧ Paired (PcT p H) xs ps
theorem PcT.go {p : Addr} {H H' : Hp} {v : V} {x : List Nat × Nat} (g : Go p H H') (h : PcT p H v x) : PcT p H' v x := by
  obtain ⟨b, rfl, hb, h⟩ := h
  exact ⟨b, rfl, hb, g.keep _ _ hb h⟩
theorem TxtL.go {p : Addr} {H H' : Hp} {a : Addr} {ps : Pcs} (g : Go p H H') (h : TxtL p H a ps) : TxtL p H' a ps := by
  obtain ⟨h1, xs, h2, h3⟩ := h
  exact ⟨h1, xs, g.keep _ _ h1 h2, prd_same (fun _ _ => PcT.go g) h3⟩
def dOf (ps : Pcs) : Dt := .lst (ps.map fun x => .tup [.str x.1, .int (x.2 : Int)])
theorem pcs_dOf (ps : Pcs) : pcs (dOf ps) = ps := by
  unfold pcs dOf
  show (ps.map fun x => Dt.tup [.str x.1, .int (x.2 : Int)]).map pcOf = ps
  rw [List.map_map]
  conv => rhs; rw [← List.map_id ps]
  refine List.map_congr_left fun x _ => ?_
  show ((x.1, ((x.2 : Int)).toNat) : List Nat × Nat) = id x
  rw [Int.toNat_natCast]
  rfl
theorem isText_dOf {ps : Pcs} (h : Good ps) : isText (dOf ps) = true := by
  have hl : ((dOf ps).items).length = ps.length := by
    show (ps.map fun x => Dt.tup [.str x.1, .int (x.2 : Int)]).length = _
    rw [List.length_map]
  have hall : ((dOf ps).items).all isPiece = true := by
    refine List.all_eq_true.mpr fun d hd => ?_
    obtain ⟨x, hx, rfl⟩ := List.mem_map.mp (show d ∈ ps.map fun x => Dt.tup [.str x.1, .int (x.2 : Int)] from hd)
    obtain ⟨hw, hn⟩ := h.ok x hx
    show (true && (isWord (.str x.1) && isWhole (.int (x.2 : Int)) 1)) = true
    have e1 : isWord (.str x.1) = true := by
      show (x.1.all (alpha.contains ·) && decide (x.1.length ≤ 60) && decide (x.1 ≠ [])) = true
      rw [show x.1.all (alpha.contains ·) = true from hw.1, decide_eq_true hw.2.2, decide_eq_true hw.2.1]
      rfl
    have e2 : isWhole (.int (x.2 : Int)) 1 = true := by
      show decide ((1 : Int) ≤ (x.2 : Int)) = true
      exact decide_eq_true (by omega)
    rw [e1, e2]
    rfl
  unfold isText
  rw [hl, hall, decide_eq_true h.few, sum_size hall]
  have e : (size ((dOf ps).items.map pcOf) : Int) = (size ps : Int) := by
    have := pcs_dOf ps
    unfold pcs at this
    rw [this]
  rw [e, decide_eq_true (by have := h.all; have : ((10 ^ 30 : Nat) : Int) = (10 ^ 30 : Int) := by decide
                            omega)]
  rfl
theorem TxtL.at {K : PySem.W.Frag} {p : Addr} {H : Hp} {a : Addr} {ps : Pcs} (h : TxtL p H a ps) (hg : ∀ x ∈ ps, x.1.length ≤ 60) : At K H (.ref a) (dOf ps) := by
  obtain ⟨_, xs, h2, h3⟩ := h
  unfold dOf At
  refine ⟨a, xs, rfl, SqL.of h2, ?_⟩
  clear h2
  induction h3 with
  | nil => unfold Ats; rfl
  | @cons v x xs ps hv t ih =>
    rw [List.map_cons]
    unfold Ats
    refine ⟨_, _, rfl, ?_, ih fun y hy => hg y (List.mem_cons_of_mem _ hy)⟩
    obtain ⟨b, rfl, _, hb⟩ := hv
    unfold At
    refine ⟨b, _, rfl, SqT.of hb, ?_⟩
    unfold Ats
    refine ⟨_, _, rfl, by unfold At; exact ⟨rfl, Nat.le_trans (hg x (List.mem_cons_self ..)) (by decide)⟩, ?_⟩
    unfold Ats
    refine ⟨_, _, rfl, by unfold At; rfl, ?_⟩
    unfold Ats
    rfl

theorem go_new {p t : Addr} {H H' : Hp} {o : HO} (g : Go p H H') (nt : H' t = none) : Go p H (upd H' t o) := g.same (same_upd nt)
theorem PcT.upd {p : Addr} {H : Hp} {v : V} {x : List Nat × Nat} {o : Addr} {us vs : List V} (ho : H o = some (.lst us)) (h : PcT p H v x) : PcT p (upd H o (.lst vs)) v x := by
  obtain ⟨b, rfl, hb, h⟩ := h
  exact ⟨b, rfl, hb, by rw [upd_ne (ne_of h ho (by intro z; cases z))]; exact h⟩
theorem go_mut {p o : Addr} {H H' : Hp} {x : HO} (g : Go p H H') (no : H o = none) (hop : o ≠ p) : Go p H (upd H' o x) := by
  refine ⟨fun b u hb e => by rw [upd_ne (ne_of_none e no)]; exact g.keep b u hb e, ?_⟩
  obtain ⟨F, S, C, h1, h2⟩ := g.spr
  exact ⟨F, S, C, by rw [upd_ne hop.symm]; exact h1, h2⟩
def OkP (wide times : Int) (x : List Nat × Nat) : Prop := Plain x.1 ∧ x.1 ≠ [] ∧ (x.1.length : Int) ≤ wide ∧ 1 ≤ x.2 ∧ (x.2 : Int) ≤ times
def spTextL : Sp := fun vs H Q _ => ∃ (p : Addr) (most wide times : Int), vs = [.ref p, .int most, .int wide, .int times] ∧ Spr H p ∧ 0 ≤ most ∧ most ≤ 10000 ∧ 1 ≤ wide ∧ wide ≤ 10000 ∧ 1 ≤ times ∧ times.natAbs < 2 ^ 250 ∧
  ∀ H' a ps, Go p H H' → H a = none → TxtL p H' a ps → (ps.length : Int) ≤ most → (∀ x ∈ ps, OkP wide times x) → Q (.ref a) H'
theorem ok__law_text (T : Txt K mg w) : FnOk P w K mg base CX0 3 T.f__law_text.f T.f__law_text.fd ["spring", "most", "wide", "times"] spTextL := by
  refine T.f__law_text.F.ok sc__law_text (fun vs H Q E h => ?_) (fun cdv A outer s H vs Q E hr h => ?_)
  · obtain ⟨p, m, wd, tm, rfl, _⟩ := h
    rfl
  obtain ⟨p, most, wide, times, rfl, hp, hm, hm2, hw, hw2, ht, ht2, q⟩ := h
  refine ⟨_, (pss_cons (ps_set (i := 4) sc__law_text.nd rfl (.inl rfl) (pe_lst pa_nil))
      (pss_cons (ps_for PassesOwn.never rfl (pi_range1 (by rfl) T.b_range (pa_cons (pe_call (ok__law_draw T) (hr.mono (by first | decide | omega)) (by rfl) T.f__law_draw.g T.f__law_draw.F.kp T.f__law_draw.b .nil pass0 (pa_cons (pv 0) (pa_cons (pe_op op_add (pv 1) pe_int) pa_nil))) pa_nil)) (pg_name (i := 5) sc__law_text.nd rfl (.inl rfl))
        (pss_one (ps_expr (pe_bm PySem.F.plainAttrs_list PySem.F.slot_list_append PySem.F.type_list_append mt_append (pv 4) (pa_cons (pe_tup (pa_cons (pe_call (ok__law_word T) (hr.mono (by first | decide | omega)) (by rfl) T.f__law_word.g T.f__law_word.F.kp T.f__law_word.b .nil pass0 (pa_cons (pv 0) (pa_cons (pv 2) pa_nil))) (pa_cons (pe_op op_add pe_int (pe_call (ok__law_draw T) (hr.mono (by first | decide | omega)) (by rfl) T.f__law_draw.g T.f__law_draw.F.kp T.f__law_draw.b .nil pass0 (pa_cons (pv 0) (pa_cons (pv 3) pa_nil)))) pa_nil))) pa_nil)))))
      (pss_one (ps_ret (pv 4))))), ?_⟩
  walk_at "rd"
  refine ⟨Nat.zero_le _, fun o no => ?_⟩
  have hop : o ≠ p := hp.ne no
  have g0 := Go.of_same hp (same_upd (o := .lst []) no)
  refine fr_rng1 ?_
  walk_at "rd"
  refine ⟨_, rfl, _, rfl, _, _, rfl, rfl, p, _, rfl, g0.spr, by omega, small300 (by omega) (by omega), fun H1 n g1 n0 nm => ?_⟩
  refine ⟨n, rfl, by omega, by omega, ForGo.range
    (fun i σ H2 => ∃ y, σ = [some (.ref p), some (.int most), some (.int wide), some (.int times), some (.ref o), y] ∧ Go p H H2 ∧ ∃ ps xs, H2 o = some (.lst xs) ∧ Paired (PcT p H2) xs ps ∧ ps.length = i ∧ ∀ x ∈ ps, OkP wide times x)
    ⟨none, rfl, g0.trans g1, [], [], g1.keep _ _ hop upd_same, .nil, rfl, fun x hx => by cases hx⟩ ?_ ?_⟩
  · rintro i σ H2 hi ⟨y, rfl, g2, ps, xs, ho, hps, hl, hok⟩
    walk_at "rd"
    refine ⟨_, rfl, .inl ⟨rfl, _, SqL.of ho⟩, ?_⟩
    refine ⟨_, rfl, _, rfl, p, wide, rfl, g2.spr, hw, by omega, fun H3 x g3 hx hxl hxp => ?_⟩
    refine ⟨_, rfl, _, rfl, p, times, rfl, g3.spr, by omega, ht2, fun H4 r g4 r0 rl => ?_⟩
    obtain ⟨k, rfl⟩ := Int.eq_ofNat_of_zero_le r0
    have g34 := g3.trans g4
    have ho4 := g34.keep _ _ hop ho
    refine ⟨_, _, rfl, rfl, by show 2 ≤ sizeLine; decide, fun t nt => ?_⟩
    have hot : o ≠ t := ne_of_none ho4 nt
    have g5 := Go.of_same g4.spr (same_upd (o := .tup [.str (tx x), .int (1 + (k : Int))]) nt)
    have ho5 := g5.keep _ _ hop ho4
    have hxl2 := prd_len hps
    refine ⟨o, xs, _, rfl, rfl, ho5, ?_, _, rfl, go_mut ((g2.trans g34).trans g5) no hop, ps ++ [(x, 1 + k)], _, upd_same, ?_, ?_, ?_⟩
    · rw [hxl2, hl]
      exact Nat.lt_of_lt_of_le (show i < 100000 by omega) (by decide)
    · refine prd_snoc (prd_same (fun _ _ z => PcT.upd ho5 (PcT.go (g34.trans g5) z)) hps) (PcT.upd ho5 ⟨t, rfl, g4.spr.ne nt, ?_⟩)
      rw [upd_same]
      show some (HO.tup [.str (tx x), .int (1 + (k : Int))]) = some (HO.tup [.str (tx x), .int ((1 + k : Nat) : Int)])
      rw [Int.natCast_add]
      rfl
    · rw [List.length_append, hl]
      rfl
    · intro y hy
      rcases List.mem_append.mp hy with hy | hy
      · exact hok y hy
      · have : y = (x, 1 + k) := by simpa using hy
        subst this
        exact ⟨hxp, hx, hxl, by show 1 ≤ 1 + k; omega, by show ((1 + k : Nat) : Int) ≤ times; omega⟩
  · rintro σ H2 ⟨y, rfl, g2, ps, xs, ho, hps, hl, hok⟩
    walk_at "rd"
    exact ⟨_, rfl, q _ _ _ g2 no ⟨hop, xs, ho, hps⟩ (by omega) hok⟩

theorem spell_alpha {ps : Pcs} (h : Good ps) {c : Nat} (hc : c ∈ spell ps) : c ∈ alpha := by
  unfold spell at hc
  obtain ⟨l, hl, hcl⟩ := List.mem_flatten.mp hc
  obtain ⟨x, hx, rfl⟩ := List.mem_map.mp hl
  have := plain_mem (h.ok x hx).1.1 (rep_mem hcl)
  rw [List.contains_iff_mem] at this
  exact this
theorem ones_flat : ∀ (ws : List Nat), (ws.map fun c => [c]).flatten = ws
  | [] => rfl
  | c :: ws => by rw [List.map_cons, List.flatten_cons, ones_flat ws]; rfl
theorem ones_len (ws : List Nat) : (((ws.map fun c => [c]).map tx).map (·.length)).sum = ws.length := by
  have e1 : (((ws.map fun c => [c]).map tx).map (·.length)) = (ws.map fun c => [c]).map (·.length) := by rw [List.map_map]; exact List.map_congr_left fun x _ => tx_len x
  rw [e1, sum_le_len, ones_flat]
/-! ## the law's own letter -/
def spLawLetter : Sp := fun vs H Q _ => ∃ (p a : Addr) (ps : Pcs) (place c : Nat), vs = [.ref a, .int (place : Int)] ∧ TxtL p H a ps ∧ GoodW ps ∧ (spell ps)[place]? = some c ∧ Q (.str (tx [c])) H

/-! ## small things -/
mutual
def fitB : Dt → Bool
  | .non => true
  | .bl _ => true
  | .int i => decide (i.natAbs < 10 ^ 47)
  | .str w => w.all fun c => decide (c < 4294967296)
  | .lst ds => fitBs ds
  | .tup ds => fitBs ds
  | .dic => true
def fitBs : List Dt → Bool
  | [] => true
  | d :: ds => fitB d && fitBs ds
end
mutual
theorem fitB_of : ∀ d : Dt, fitB d = true → FitD d
  | .non, _ => by unfold FitD; trivial
  | .bl _, _ => by unfold FitD; trivial
  | .int i, h => by unfold fitB at h; unfold FitD; exact of_decide_eq_true h
  | .str w, h => by unfold fitB at h; unfold FitD; exact fun c hc => of_decide_eq_true (List.all_eq_true.mp h c hc)
  | .lst ds, h => by unfold fitB at h; unfold FitD; exact fitBs_of ds h
  | .tup ds, h => by unfold fitB at h; unfold FitD; exact fitBs_of ds h
  | .dic, _ => by unfold FitD; trivial
theorem fitBs_of : ∀ ds : List Dt, fitBs ds = true → FitDs ds
  | [], _ => by unfold FitDs; trivial
  | d :: ds, h => by
    unfold fitBs at h
    rw [Bool.and_eq_true] at h
    unfold FitDs
    exact ⟨fitB_of d h.1, fitBs_of ds h.2⟩
end
theorem all_at {α : Type} {f : α → Bool} {l : List α} {i : Nat} {x : α} (h : l.all f = true) (e : l[i]? = some x) : f x = true := List.all_eq_true.mp h x (List.mem_of_getElem? e)
theorem las_lt {K : PySem.W.Frag} {H : Hp} {vs : List V} {ds : List Dt} {j n : Nat} (h : Ats K H vs ds) (hj : j < n) (hn : ds.length = n) : ∃ d v, ds[j]? = some d ∧ vs[j]? = some v ∧ At K H v d := by
  have hd : ds[j]? = some (ds[j]'(by omega)) := List.getElem?_eq_getElem _
  obtain ⟨v, hv, a⟩ := h.get hd
  exact ⟨_, v, hd, hv, a⟩
/-- short, and shown shortly -/
def Tiny (d : Dt) : Bool := fitB d && decide (deep d ≤ 5) && decide (bulk d ≤ 1000)
theorem Tiny.fit {d : Dt} (h : Tiny d = true) : FitD d ∧ deep d ≤ 5 ∧ bulk d ≤ 1000 := by
  unfold Tiny at h
  simp only [Bool.and_eq_true, decide_eq_true_eq] at h
  exact ⟨fitB_of d h.1.1, h.1.2, h.2⟩
theorem deepAll_app : ∀ (A B : List Dt), deepAll (A ++ B) = max (deepAll A) (deepAll B)
  | [], B => by rw [List.nil_append]; simp only [deepAll]; omega
  | a :: A, B => by
    rw [List.cons_append]
    simp only [deepAll, deepAll_app A B]
    omega
theorem bulkAll_app : ∀ (A B : List Dt), bulkAll (A ++ B) = bulkAll A + bulkAll B
  | [], B => by rw [List.nil_append]; simp only [bulkAll]; omega
  | a :: A, B => by
    rw [List.cons_append]
    simp only [bulkAll, bulkAll_app A B]
    omega
theorem fitDs_app {A B : List Dt} (h : FitDs A) (k : FitDs B) : FitDs (A ++ B) := fitDs_of fun d hd => (List.mem_append.mp hd).elim (fun z => fitDs_mem h z) fun z => fitDs_mem k z
theorem fitDs_sub {A B : List Dt} (h : FitDs B) (k : ∀ d ∈ A, d ∈ B) : FitDs A := fitDs_of fun d hd => fitDs_mem h (k d hd)
/-- a short list with a small thing put in -/
theorem neat_put {A B ds : List Dt} {d : Dt} (hs : ds = A ++ B) (h : NeatD (.lst ds)) (hd : deep (.lst ds) ≤ 10) (hb : bulk (.lst ds) ≤ 5000) (ht : Tiny d = true) : NeatD (.lst (A ++ [d] ++ B)) ∧ deep (.lst (A ++ [d] ++ B)) ≤ 10 ∧ bulk (.lst (A ++ [d] ++ B)) ≤ 7000 := by
  obtain ⟨t1, t2, t3⟩ := Tiny.fit ht
  have h1 : FitDs ds := by have := h.1; unfold FitD at this; exact this
  simp only [deep, hs, deepAll_app] at hd
  simp only [bulk, hs, bulkAll_app] at hb
  have e1 : deep (.lst (A ++ [d] ++ B)) ≤ 10 := by simp only [deep, deepAll_app, deepAll]; omega
  have e2 : bulk (.lst (A ++ [d] ++ B)) ≤ 7000 := by simp only [bulk, bulkAll_app, bulkAll]; omega
  refine ⟨⟨?_, by omega, by omega⟩, e1, e2⟩
  unfold FitD
  refine fitDs_app (fitDs_app (fitDs_sub h1 fun x hx => by rw [hs]; exact List.mem_append_left _ hx) ?_) (fitDs_sub h1 fun x hx => by rw [hs]; exact List.mem_append_right _ hx)
  unfold FitDs FitDs
  exact ⟨t1, trivial⟩
theorem cut_to {xs : List V} {n : Nat} (hn : n ≤ xs.length) : cutV xs none (some (n : Int)) = xs.take n ∧ cutV xs (some (n : Int)) none = xs.drop n := by
  have e : HT.sIx xs.length xs.length (some (n : Int)) = n ∧ HT.sIx xs.length 0 (some (n : Int)) = n := ⟨(HT.sIx_nat xs.length xs.length n).trans (by omega), (HT.sIx_nat xs.length 0 n).trans (by omega)⟩
  have e2 : HT.sIx xs.length 0 none = 0 := rfl
  have e3 : HT.sIx xs.length xs.length none = xs.length := rfl
  constructor
  · unfold cutV
    rw [e.1, e2, List.drop_zero, Nat.sub_zero]
  · unfold cutV
    rw [e.2, e3, List.take_of_length_le (by rw [List.length_drop]; omega)]

/-! ## lists and tuples, mixed within -/
theorem iteE {c : Bool} {A B : Prop} (h1 : c = true → A) (h2 : c = false → B) : if c = true then A else B := by
  cases c with
  | true => exact iteT (h1 rfl)
  | false => exact iteF (h2 rfl)
theorem norm_row {d : Dt} (h : isRow d = true) : norm d = .lst (d.items.map norm) := by
  cases d with
  | lst ds => simp only [norm, Dt.items, normAll_map]
  | tup ds => simp only [norm, Dt.items, normAll_map]
  | _ => cases h
def spLists (n : Nat) (K : PySem.W.Frag) : Sp := fun vs H Q _ => ∃ v d, vs = [v] ∧ At K H v d ∧ deep d < n ∧ Fits d ∧ bulk d ≤ 300000 ∧
  ∀ H' u fp, Same H H' → AtF H' u (norm d) fp → fp.Nodup → (∀ b ∈ fp, H b = none) → Q u H'
theorem ok__law_lists (T : Txt K mg w) : ∀ n, FnOk P w K mg base CX0 n T.f__law_lists.f T.f__law_lists.fd ["thing"] (spLists n K)
  | 0 => ⟨fun vs H Q E h => by obtain ⟨v, d, rfl, _⟩ := h; rfl, fun A outer s H args us vs Q E _ _ _ _ h => by obtain ⟨v, d, _, _, h, _⟩ := h; exact absurd h (Nat.not_lt_zero _)⟩
  | n + 1 => by
    have ih := ok__law_lists T n
    refine T.f__law_lists.F.ok sc__law_lists (fun vs H Q E h => ?_) (fun cdv A outer s H vs Q E hr h => ?_)
    · obtain ⟨v, d, rfl, _⟩ := h
      rfl
    obtain ⟨v, d, rfl, hv, hdp, hft, hbk, q⟩ := h
    refine ⟨_, (pss_one (ps_ret (pe_ifExp (pt_val (pe_callB call_isiT (by rfl) T.b_isinstance (by decide +kernel) (pa_cons (pv 0) (pa_cons (pe_tup (pa_cons (pe_bltn (v := .ty "list") (by rfl) T.b_list (by decide +kernel) rfl) (pa_cons (pe_bltn (v := .ty "tuple") (by rfl) T.b_tuple (by decide +kernel) rfl) pa_nil))) pa_nil)))) (pe_lc (own := [("inner", 1)]) rfl sc__law_lists.nd (pi_seq (pv 0)) (blkOk_by (own := [("inner", 1)]) (N := N__law_lists) (sc := defScope s__law_lists) (by decide +kernel)) (fun _ _ _ _ _ => (pg_name (i := 1) sc__law_lists.nd rfl (.inl rfl))) (fun _ _ _ _ _ => pts_nil) (fun _ _ _ _ _ => (pe_call (ih) (hr.mono (by first | decide | omega)) (by rfl) T.f__law_lists.g T.f__law_lists.F.kp T.f__law_lists.b .nil pass0 (pa_cons (pv 1) pa_nil)))) (pv 0)))), ?_⟩
    walk_at "rd"
    refine ⟨v, rfl, (by show 2 ≤ sizeLine; decide), fun t nt => ?_⟩
    have s0 : Same H (upd H t (.tup [.ty "list", .ty "tuple"])) := same_upd nt
    have hv0 := At.same s0 _ _ hv
    refine isi_row hv0 upd_same ⟨_, rfl, iteE (fun e => ?_) (fun e => ?_)⟩
    · obtain ⟨a, xs, rfl, hrow, hit⟩ := at_row hv0 e
      have hxl := hit.len
      have hlb := len_bulk d
      refine lc_rowP (a := a) (xs := xs) rfl hrow (Same.refl _) (fun _ => rfl) (fun _ _ _ h => h)
        (fun D i ys H' => Same H H' ∧ H' D = some (.lst ys) ∧ (Same (upd H t (.tup [.ty "list", .ty "tuple"])) H') ∧ ys.length = i ∧ ∃ fs, AtFs H' ys ((d.items.map norm).take i) fs ∧ fs.Nodup ∧ D ∉ fs ∧ ∀ b ∈ fs, H b = none)
        (fun D nD => ⟨s0.trans (same_upd nD), upd_same, same_upd nD, rfl, [], by rw [List.take_zero]; unfold AtFs; exact ⟨rfl, rfl⟩, List.nodup_nil, (fun z => List.not_mem_nil z), fun b hb => (List.not_mem_nil hb).elim⟩)
        (fun D i ys H' p => p.2.2.1) ?_ ?_
      · rintro D i x ys H' nD hx ⟨s1, hD, s2, hyl, fs, hfs, hnd, hDf, hfr⟩
        obtain ⟨c, hc, ac⟩ := hit.at hx
        have hcm := List.mem_of_getElem? hc
        have hi := (List.getElem?_eq_some_iff.mp hc).1
        refine ⟨_, rfl, x, c, rfl, At.same s2 _ _ ac, by have := mem_deep hcm; omega, mem_fits hft hcm, by have := mem_bulk hcm; omega, fun H3 u fp s3 hu hun hufr => ?_⟩
        have hDfp : D ∉ fp := fun z => by
          have := hufr D z
          rw [hD] at this
          cases this
        have hnDp : H D = none := s0.free nD
        refine ⟨ys, s3 _ _ hD, Nat.lt_of_le_of_lt (show ys.length ≤ 300000 by omega) (by decide), ys ++ [u], ?_, upd_same, ?_, by rw [List.length_append, hyl]; rfl, fs ++ fp, ?_, ?_, ?_, ?_⟩
        · exact same_mut (s1.trans s3) hnDp
        · exact same_mut (s2.trans s3) nD
        · rw [take_norm hc]
          refine AtFs.snoc (AtF.same _ _ _ hu (fun b o hb e => ?_)) (AtFs.same _ _ _ hfs (fun b o hb e => ?_))
          · rw [upd_ne (fun z => hDfp (by rw [← z]; exact hb))]
            exact e
          · rw [upd_ne (fun z => hDf (by rw [← z]; exact hb))]
            exact s3 _ _ e
        · refine List.nodup_append.mpr ⟨hnd, hun, fun b hb c2 hc2 z => ?_⟩
          subst z
          obtain ⟨o, ho⟩ := AtFs.trk _ _ _ hfs b hb
          rw [hufr b hc2] at ho
          cases ho
        · intro z
          rcases List.mem_append.mp z with z | z
          · exact hDf z
          · exact hDfp z
        · intro b hb
          rcases List.mem_append.mp hb with hb | hb
          · exact hfr b hb
          · exact s1.free (hufr b hb)
      · rintro D ys H' nD ⟨s1, hD, s2, hyl, fs, hfs, hnd, hDf, hfr⟩
        rw [List.take_of_length_le (by rw [List.length_map, hxl]; exact Nat.le_refl _)] at hfs
        refine q H' (.ref D) (D :: fs) s1 ?_ (List.nodup_cons.mpr ⟨hDf, hnd⟩) (fun b hb => ?_)
        · rw [norm_row e]
          unfold AtF
          exact ⟨D, ys, fs, rfl, hD, hfs, rfl⟩
        · rcases List.mem_cons.mp hb with rfl | hb
          · exact s0.free nD
          · exact hfr b hb
    · exact ⟨_, rfl, q _ v [] s0 (leaf_AtF hv0 hft e) List.nodup_nil (fun b hb => (List.not_mem_nil hb).elim)⟩
def spHanded (K : PySem.W.Frag) : Sp := fun vs H Q _ => ∃ p v d, vs = [.ref p, v] ∧ Spr H p ∧ At K (hid p H) v d ∧ isRow d = true ∧ deep d ≤ 3 ∧ Fits d ∧ bulk d ≤ 300000 ∧
  ∀ H' u e, Go p H H' → At K (hid p H') u e → norm e = norm d → Q u H'
theorem Go.hid {p : Addr} {H H' : Hp} (g : Go p H H') : Same (hid p H) (hid p H') := fun b o h => by
  obtain ⟨h1, h2⟩ := hid_at h
  rw [hid_ne h1]
  exact g.keep b o h1 h2
theorem Spr.some {p : Addr} {H : Hp} (h : Spr H p) : H p ≠ none := by
  obtain ⟨F, S, C, h, _⟩ := h
  rw [h]
  exact nofun
theorem hid_fresh {p : Addr} {H H' : Hp} (h : Spr H p) {v : V} {d : Dt} {fp : List Addr} (hv : AtF H' v d fp) (hf : ∀ b ∈ fp, H b = none) : AtF (hid p H') v d fp :=
  AtF.same _ _ _ hv fun b o hb e => by
    rw [hid_ne (fun z => h.some (by rw [← z]; exact hf b hb))]
    exact e
theorem ok__law_handed (T : Txt K mg w) : FnOk P w K mg base CX0 6 T.f__law_handed.f T.f__law_handed.fd ["spring", "thing"] (spHanded K) := by
  refine T.f__law_handed.F.ok sc__law_handed (fun vs H Q E h => ?_) (fun cdv A outer s H vs Q E hr h => ?_)
  · obtain ⟨p, v, d, rfl, _⟩ := h
    rfl
  obtain ⟨p, v, d, rfl, hp, hv, hrd, hdp, hft, hbk, q⟩ := h
  refine ⟨_, (pss_cons (ps_set (i := 2) sc__law_handed.nd rfl (.inl rfl) (pe_call (ok__law_draw T) (hr.mono (by first | decide | omega)) (by rfl) T.f__law_draw.g T.f__law_draw.F.kp T.f__law_draw.b .nil pass0 (pa_cons (pv 0) (pa_cons pe_int pa_nil))))
      (pss_cons (ps_if (pt_cmpR op_eq (pv 2) pe_int (nomark _)) (pss_one (ps_ret (pe_call (ok__law_lists T 4) (hr.mono (by first | decide | omega)) (by rfl) T.f__law_lists.g T.f__law_lists.F.kp T.f__law_lists.b .nil pass0 (pa_cons (pv 1) pa_nil)))) pss_nil)
      (pss_cons (ps_if (pt_cmpR op_eq (pv 2) pe_int (nomark _)) (pss_one (ps_ret (pe_lc (own := [("one", 3)]) rfl sc__law_handed.nd (pi_seq (pv 1)) (blkOk_by (own := [("one", 3)]) (N := N__law_handed) (sc := defScope s__law_handed) (by decide +kernel)) (fun _ _ _ _ _ => (pg_name (i := 3) sc__law_handed.nd rfl (.inl rfl))) (fun _ _ _ _ _ => pts_nil) (fun _ _ _ _ _ => (pe_ifExp (pt_cmpR op_eq (pe_call (ok__law_draw T) (hr.mono (by first | decide | omega)) (by rfl) T.f__law_draw.g T.f__law_draw.F.kp T.f__law_draw.b .nil pass0 (pa_cons (pv 0) (pa_cons pe_int pa_nil))) pe_int (nomark _)) (pe_call (ok__law_lists T 3) (hr.mono (by first | decide | omega)) (by rfl) T.f__law_lists.g T.f__law_lists.F.kp T.f__law_lists.b .nil pass0 (pa_cons (pv 3) pa_nil)) (pv 3)))))) pss_nil)
      (pss_cons (ps_if (pt_cmpR op_eq (pv 2) pe_int (nomark _)) (pss_one (ps_ret (pe_callTy call_tuple_of (by rfl) T.b_tuple (by decide +kernel) (pa_cons (pe_lc (own := [("one", 3)]) rfl sc__law_handed.nd (pi_seq (pv 1)) (blkOk_by (own := [("one", 3)]) (N := N__law_handed) (sc := defScope s__law_handed) (by decide +kernel)) (fun _ _ _ _ _ => (pg_name (i := 3) sc__law_handed.nd rfl (.inl rfl))) (fun _ _ _ _ _ => pts_nil) (fun _ _ _ _ _ => (pe_call (ok__law_lists T 3) (hr.mono (by first | decide | omega)) (by rfl) T.f__law_lists.g T.f__law_lists.F.kp T.f__law_lists.b .nil pass0 (pa_cons (pv 3) pa_nil)))) pa_nil)))) pss_nil)
      (pss_one (ps_ret (pe_ifExp (pt_cmpR op_eq (pv 2) pe_int (nomark _)) (pe_callTy call_tuple_of (by rfl) T.b_tuple (by decide +kernel) (pa_cons (pv 1) pa_nil)) (pv 1)))))))), ?_⟩
  walk_at "rd"
  refine ⟨_, rfl, p, 5, rfl, hp, by decide, by decide, fun H1 r g1 r0 r5 => ?_⟩
  have hv1 := At.same g1.hid _ _ hv
  have hv1' := At.same (hid_same p H1) _ _ hv1
  obtain ⟨a, xs, rfl, hrow, hit⟩ := at_row hv1 hrd
  have hxl := hit.len
  have hlb := len_bulk d
  refine ⟨_, rfl, rfl, _, rfl, ite2 (fun e1 => ?_) (fun e1 => ?_)⟩
  · refine ⟨_, rfl, .ref a, d, rfl, hv1', by omega, hft, hbk, fun H2 u fp s2 hu hnd hf => ?_⟩
    exact q H2 u (norm d) (g1.same s2) (AtF.at _ _ _ (hid_fresh g1.spr hu hf)) (norm_norm d)
  refine ⟨_, rfl, rfl, _, rfl, ite2 (fun e2 => ?_) (fun e2 => ?_)⟩
  · refine lc_rowP (a := a) (xs := xs) rfl hrow (hid_same p H1) (fun _ => rfl) (fun _ _ _ h => h)
      (fun D i ys H' => H1 D = none ∧ Go p H1 H' ∧ H' D = some (.lst ys) ∧ ys.length = i ∧ ∃ es, Ats K (hid D (hid p H')) ys es ∧ es.map norm = (d.items.map norm).take i)
      (fun D nD => ⟨nD, .of_same g1.spr (same_upd nD), upd_same, rfl, [], by unfold Ats; rfl, by rw [List.take_zero]; rfl⟩)
      (fun D i ys H' p => p.2.1.hid.trans (hid_same _ _)) ?_ ?_
    · rintro D i x ys H' nD hx ⟨_, g2, hD, hyl, es, hes, hnm⟩
      obtain ⟨c, hc, ac⟩ := hit.at hx
      have hcm := List.mem_of_getElem? hc
      have hi := (List.getElem?_eq_some_iff.mp hx).1
      have hDp : D ≠ p := g1.spr.ne nD
      have hDd : ∀ {H4 : Hp}, Go p H' H4 → Same (hid p H1) (hid D (hid p H4)) := fun {H4} g b o h => by
        obtain ⟨h1, h2⟩ := hid_at h
        rw [hid_ne (ne_of_none h2 nD)]
        exact (g2.trans g).hid _ _ h
      refine ⟨_, rfl, p, 2, rfl, g2.spr, by decide, by decide, fun H3 r2 g3 r20 r21 => ⟨rfl, _, rfl, ite2 (fun e3 => ?_) (fun e3 => ?_)⟩⟩
      · refine ⟨_, rfl, x, c, rfl, At.same ((hDd g3).trans ((hid_same D _).trans (hid_same p _))) _ _ ac, by have := mem_deep hcm; omega, mem_fits hft hcm, by have := mem_bulk hcm; omega, fun H4 u fp s4 hu hun hufr => ?_⟩
        have g4 := g3.same s4
        have hD4 := g4.keep _ _ hDp hD
        have hDfp : D ∉ fp := fun z => by
          have := hufr D z
          rw [g3.keep _ _ hDp hD] at this
          cases this
        have hu4 : At K (hid D (hid p H4)) u (norm c) := AtF.at _ _ _ (AtF.same _ _ _ (hid_fresh g3.spr hu hufr) (fun b o hb e => by
          rw [hid_ne (fun z => hDfp (by rw [← z]; exact hb))]
          exact e))
        refine ⟨ys, hD4, Nat.lt_of_le_of_lt (show ys.length ≤ 300000 by omega) (by decide), ys ++ [u], nD, go_mut (g2.trans g4) nD hDp, upd_same, by rw [List.length_append, hyl]; rfl, es ++ [norm c], ?_, ?_⟩
        · rw [hid_upd hDp, hid_hid]
          exact Ats.snoc hu4 (Ats.same (hid_mono g4.hid) _ _ hes)
        · rw [take_norm hc, List.map_append, hnm]
          show _ ++ [norm (norm c)] = _
          rw [norm_norm]
      · have hD3 := g3.keep _ _ hDp hD
        refine ⟨_, rfl, ys, hD3, Nat.lt_of_le_of_lt (show ys.length ≤ 300000 by omega) (by decide), ys ++ [x], nD, go_mut (g2.trans g3) nD hDp, upd_same, by rw [List.length_append, hyl]; rfl, es ++ [c], ?_, ?_⟩
        · rw [hid_upd hDp, hid_hid]
          exact Ats.snoc (At.same (hDd g3) _ _ ac) (Ats.same (hid_mono g3.hid) _ _ hes)
        · rw [take_norm hc, List.map_append, hnm]
          rfl
    · rintro D ys H' nD ⟨_, g2, hD, hyl, es, hes, hnm⟩
      have hDp : D ≠ p := g1.spr.ne nD
      rw [List.take_of_length_le (by rw [List.length_map, hxl]; exact Nat.le_refl _)] at hnm
      refine q H' (.ref D) (.lst es) (g1.trans g2) ?_ ?_
      · unfold At
        exact ⟨D, ys, rfl, SqL.of (by rw [hid_ne hDp]; exact hD), Ats.same (hid_same D _) _ _ hes⟩
      · rw [norm_row hrd]
        simp only [norm, normAll_map, hnm]
  refine ⟨_, rfl, rfl, _, rfl, ite2 (fun e3 => ?_) (fun e3 => ?_)⟩
  · refine lc_rowP (a := a) (xs := xs) rfl hrow (hid_same p H1) (fun _ => rfl) (fun _ _ _ h => h)
      (fun D i ys H' => H1 D = none ∧ Same H1 H' ∧ H' D = some (.lst ys) ∧ ys.length = i ∧ ∃ es, Ats K (hid D (hid p H')) ys es ∧ es.map norm = (d.items.map norm).take i)
      (fun D nD => ⟨nD, same_upd nD, upd_same, rfl, [], by unfold Ats; rfl, by rw [List.take_zero]; rfl⟩)
      (fun D i ys H' p => (hid_mono p.2.1).trans (hid_same _ _)) ?_ ?_
    · rintro D i x ys H' nD hx ⟨_, s2, hD, hyl, es, hes, hnm⟩
      obtain ⟨c, hc, ac⟩ := hit.at hx
      have hcm := List.mem_of_getElem? hc
      have hi := (List.getElem?_eq_some_iff.mp hx).1
      have hDp : D ≠ p := g1.spr.ne nD
      refine ⟨_, rfl, x, c, rfl, At.same ((hid_same p _).trans s2) _ _ ac, by have := mem_deep hcm; omega, mem_fits hft hcm, by have := mem_bulk hcm; omega, fun H4 u fp s4 hu hun hufr => ?_⟩
      have hDfp : D ∉ fp := fun z => by
        have := hufr D z
        rw [hD] at this
        cases this
      have hu4 : At K (hid D (hid p H4)) u (norm c) := AtF.at _ _ _ (AtF.same _ _ _ (hid_fresh (g1.spr.same s2) hu hufr) (fun b o hb e => by
        rw [hid_ne (fun z => hDfp (by rw [← z]; exact hb))]
        exact e))
      refine ⟨ys, s4 _ _ hD, Nat.lt_of_le_of_lt (show ys.length ≤ 300000 by omega) (by decide), ys ++ [u], nD, same_mut (s2.trans s4) nD, upd_same, by rw [List.length_append, hyl]; rfl, es ++ [norm c], ?_, ?_⟩
      · rw [hid_upd hDp, hid_hid]
        exact Ats.snoc hu4 (Ats.same (hid_mono (hid_mono s4)) _ _ hes)
      · rw [take_norm hc, List.map_append, hnm]
        show _ ++ [norm (norm c)] = _
        rw [norm_norm]
    · rintro D ys H' nD ⟨_, s2, hD, hyl, es, hes, hnm⟩
      have hDp : D ≠ p := g1.spr.ne nD
      rw [List.take_of_length_le (by rw [List.length_map, hxl]; exact Nat.le_refl _)] at hnm
      refine ⟨D, ys, rfl, .inl ⟨SqL.of hD, fun l nl => ?_⟩⟩
      have hlp : l ≠ p := (g1.spr.same s2).ne nl
      refine q _ (.ref l) (.tup es) ((g1.same s2).same (same_upd nl)) ?_ ?_
      · unfold At
        refine ⟨l, ys, rfl, SqT.of (by rw [hid_ne hlp]; exact upd_same), Ats.same ?_ _ _ hes⟩
        exact (hid_same D _).trans (hid_mono (same_upd nl))
      · rw [norm_row hrd]
        simp only [norm, normAll_map, hnm]
  refine ⟨_, rfl, rfl, _, rfl, ite2 (fun e4 => ?_) (fun e4 => ?_)⟩
  · refine ⟨_, rfl, a, xs, rfl, ?_⟩
    rcases hrow with hs | hs
    · refine .inl ⟨(hid_same p _).seq hs, fun l nl => ?_⟩
      have hlp : l ≠ p := g1.spr.ne nl
      refine q _ (.ref l) (.tup d.items) (g1.same (same_upd nl)) ?_ ?_
      · unfold At
        exact ⟨l, xs, rfl, SqT.of (by rw [hid_ne hlp]; exact upd_same), Ats.same (hid_mono (same_upd nl)) _ _ hit⟩
      · rw [norm_row hrd]
        simp only [norm, normAll_map]
    · exact .inr ⟨sameT (hid_same p _) hs, q H1 _ d g1 hv1 rfl⟩
  · exact ⟨_, rfl, q H1 _ d g1 hv1 rfl⟩

/-! ## alike all through -/
def spSame (n : Nat) (K : PySem.W.Frag) : Sp := fun vs H Q _ => ∃ v u d, vs = [v, u] ∧ At K H v d ∧ At K H u d ∧ deep d < n ∧ Fits d ∧ bulk d ≤ 300000 ∧ ∀ H', Same H H' → Q (.bl true) H'
theorem ok__law_same (T : Txt K mg w) : ∀ n, FnOk P w K mg base CX0 n T.f__law_same.f T.f__law_same.fd ["found", "due"] (spSame n K)
  | 0 => ⟨fun vs H Q E h => by obtain ⟨v, u, d, rfl, _⟩ := h; rfl, fun A outer s H args us vs Q E _ _ _ _ h => by obtain ⟨v, u, d, _, _, _, h, _⟩ := h; exact absurd h (Nat.not_lt_zero _)⟩
  | n + 1 => by
    have ih := ok__law_same T n
    refine T.f__law_same.F.ok sc__law_same (fun vs H Q E h => ?_) (fun cdv A outer s H vs Q E hr h => ?_)
    · obtain ⟨v, u, d, rfl, _⟩ := h
      rfl
    obtain ⟨v, u, d, rfl, hv, hu, hdp, hft, hbk, q⟩ := h
    refine ⟨_, (pss_cons (ps_if (pt_val (pe_callB call_isiT (by rfl) T.b_isinstance (by decide +kernel) (pa_cons (pv 1) (pa_cons (pe_tup (pa_cons (pe_bltn (v := .ty "list") (by rfl) T.b_list (by decide +kernel) rfl) (pa_cons (pe_bltn (v := .ty "tuple") (by rfl) T.b_tuple (by decide +kernel) rfl) pa_nil))) pa_nil)))) (pss_cons (ps_if (PW.pt (pw_or (pt_cmpR op_ne (pe_callB call_isi (by rfl) T.b_isinstance (by decide +kernel) (pa_cons (pv 0) (pa_cons (pe_bltn (v := .ty "list") (by rfl) T.b_list (by decide +kernel) rfl) pa_nil))) (pe_callB call_isi (by rfl) T.b_isinstance (by decide +kernel) (pa_cons (pv 1) (pa_cons (pe_bltn (v := .ty "list") (by rfl) T.b_list (by decide +kernel) rfl) pa_nil))) (nomark _)) (pw_or1 (pt_cmpR op_ne (pe_callB call_isi (by rfl) T.b_isinstance (by decide +kernel) (pa_cons (pv 0) (pa_cons (pe_bltn (v := .ty "tuple") (by rfl) T.b_tuple (by decide +kernel) rfl) pa_nil))) (pe_callB call_isi (by rfl) T.b_isinstance (by decide +kernel) (pa_cons (pv 1) (pa_cons (pe_bltn (v := .ty "tuple") (by rfl) T.b_tuple (by decide +kernel) rfl) pa_nil))) (nomark _))))) (pss_one (ps_ret pe_bl)) pss_nil)
      (pss_one (ps_ret (pe_and (pe_cmpR op_eq (pe_callB (call_lenK K) (by rfl) T.b_len (by decide +kernel) (pa_cons (pv 0) pa_nil)) (pe_callB (call_lenK K) (by rfl) T.b_len (by decide +kernel) (pa_cons (pv 1) pa_nil)) (nomark _)) (pe_one (pe_callB (cr_all rfl) (by rfl) T.b_all (by decide +kernel) (pa_cons (pe_lc (own := [("k", 2)]) rfl sc__law_same.nd (pi_range1 (by rfl) T.b_range (pa_cons (pe_callB (call_lenK K) (by rfl) T.b_len (by decide +kernel) (pa_cons (pv 1) pa_nil)) pa_nil)) (blkOk_by (own := [("k", 2)]) (N := N__law_same) (sc := defScope s__law_same) (by decide +kernel)) (fun _ _ _ _ _ => (pg_name (i := 2) sc__law_same.nd rfl (.inl rfl))) (fun _ _ _ _ _ => pts_nil) (fun _ _ _ _ _ => (pe_call (ih) (hr.mono (by first | decide | omega)) (by rfl) T.f__law_same.g T.f__law_same.F.kp T.f__law_same.b .nil pass0 (pa_cons (pe_ix (ix_seqK K) (pv 0) (pv 2) (fun _ _ => rfl)) (pa_cons (pe_ix (ix_seqK K) (pv 1) (pv 2) (fun _ _ => rfl)) pa_nil))))) pa_nil))))))) pss_nil)
      (pss_cons (ps_if (PW.pt (pw_or (pt_cmpR op_isN (pv 1) pe_non (nomark _)) (pw_or1 (pt_cmpR op_isN (pv 0) pe_non (nomark _))))) (pss_one (ps_ret (pe_and (pe_cmpR op_isN (pv 1) pe_non (nomark _)) (pe_one (pe_cmpR op_isN (pv 0) pe_non (nomark _)))))) pss_nil)
      (pss_cons (ps_if (PW.pt (pw_or (pt_cmpR op_ne (pe_callB call_isi (by rfl) T.b_isinstance (by decide +kernel) (pa_cons (pv 1) (pa_cons (pe_bltn (v := .ty "bool") (by rfl) T.b_bool (by decide +kernel) rfl) pa_nil))) (pe_callB call_isi (by rfl) T.b_isinstance (by decide +kernel) (pa_cons (pv 0) (pa_cons (pe_bltn (v := .ty "bool") (by rfl) T.b_bool (by decide +kernel) rfl) pa_nil))) (nomark _)) (pw_or1 (pt_cmpR op_ne (pe_callB call_isi (by rfl) T.b_isinstance (by decide +kernel) (pa_cons (pv 1) (pa_cons (pe_bltn (v := .ty "str") (by rfl) T.b_str (by decide +kernel) rfl) pa_nil))) (pe_callB call_isi (by rfl) T.b_isinstance (by decide +kernel) (pa_cons (pv 0) (pa_cons (pe_bltn (v := .ty "str") (by rfl) T.b_str (by decide +kernel) rfl) pa_nil))) (nomark _))))) (pss_one (ps_ret pe_bl)) pss_nil)
      (pss_one (ps_ret (pe_cmpR op_eq (pv 0) (pv 1) (nomark _))))))), ?_⟩
    walk_at "rd"
    refine ⟨u, rfl, (by show 2 ≤ sizeLine; decide), fun t nt => ?_⟩
    have s0 : Same H (upd H t (.tup [.ty "list", .ty "tuple"])) := same_upd nt
    have hv0 := At.same s0 _ _ hv
    have hu0 := At.same s0 _ _ hu
    refine isi_row hu0 upd_same ⟨_, rfl, iteE (fun e => ?_) (fun e => ?_)⟩
    · obtain ⟨a, xs, rfl, hrow, hit⟩ := at_row hv0 e
      obtain ⟨b, ys, rfl, hrow2, hit2⟩ := at_row hu0 e
      have hxl := hit.len
      have hyl := hit2.len
      have hlb := len_bulk d
      have neq : ∀ x : V, (!decide (x = x)) = false := fun x => by rw [decide_eq_true rfl]; rfl
      refine ⟨_, rfl, isi_ty hv0 (by decide) ⟨_, rfl, isi_ty hu0 (by decide) ⟨rfl, _, rfl, ?_⟩⟩⟩
      rw [neq]
      refine iteF ⟨_, rfl, isi_ty hv0 (by decide) ⟨_, rfl, isi_ty hu0 (by decide) ⟨rfl, _, rfl, ?_⟩⟩⟩
      rw [neq]
      refine iteF ⟨_, rfl, len_row hrow ⟨_, rfl, len_row hrow2 ⟨rfl, _, rfl, ?_⟩⟩⟩
      rw [hxl, hyl, decide_eq_true rfl]
      refine iteT (lc_rng1 ?_)
      walk_at "rd"
      refine ⟨_, rfl, len_row hrow2 ⟨_, rfl, by omega, by omega, fun D nD => ?_⟩⟩
      have hDr : ((ys.length : Nat) : Int).toNat = d.items.length := by rw [hyl]; rfl
      rw [hDr]
      refine LcGo.range (fun i H' => Same (upd H t (.tup [.ty "list", .ty "tuple"])) H' ∧ H' D = some (.lst (List.replicate i (.bl true)))) ⟨same_upd nD, upd_same⟩ ?_ ?_
      · rintro i H' hi ⟨s1, hD⟩
        have hc : d.items[i]? = some d.items[i] := List.getElem?_eq_getElem hi
        obtain ⟨x, hx, ax⟩ := hit.get hc
        obtain ⟨y, hy, ay⟩ := hit2.get hc
        have hcm := List.mem_of_getElem? hc
        walk_at "rd"
        refine ⟨rfl, _, rfl, _, rfl, ix_row (hrow.same s1) (at_ofA (j := i) (by omega) hx) ⟨_, rfl, _, rfl, ix_row (hrow2.same s1) (at_ofA (j := i) (by omega) hy) ?_⟩⟩
        refine ⟨x, y, _, rfl, At.same s1 _ _ ax, At.same s1 _ _ ay, by have := mem_deep hcm; omega, mem_fits hft hcm, by have := mem_bulk hcm; omega, fun H3 s3 => ?_⟩
        refine ⟨_, s3 _ _ hD, ?_, same_mut (s1.trans s3) nD, ?_⟩
        · rw [List.length_replicate]
          exact Nat.lt_of_le_of_lt (show i ≤ 300000 by omega) (by decide)
        · rw [upd_same, List.replicate_succ']
      · rintro H' ⟨s1, hD⟩
        refine ⟨D, List.replicate d.items.length true, rfl, SqL.of (by rw [hD, List.map_replicate]), ?_⟩
        have ea : (List.replicate d.items.length true).all id = true := by
          rw [List.all_eq_true]
          intro x hx
          rw [List.eq_of_mem_replicate hx]
          rfl
        rw [ea]
        exact q _ (s0.trans s1)
    · have neq : ∀ x : V, (!decide (x = x)) = false := fun x => by rw [decide_eq_true rfl]; rfl
      have deq : ∀ x : V, decide (x = x) = true := fun x => decide_eq_true rfl
      refine ⟨_, rfl, rfl, _, rfl, ?_⟩
      by_cases hn : d = .non
      · subst hn
        unfold At at hv0 hu0
        subst hv0 hu0
        rw [deq]
        refine iteT (iteT ⟨_, rfl, rfl, _, rfl, ?_⟩)
        rw [deq]
        refine iteT ⟨_, rfl, rfl, ?_⟩
        rw [deq]
        exact q _ s0
      · have hvu : v = u ∧ u ≠ .non ∧ scal v u = true := by
          cases d with
          | lst ds => cases e
          | tup ds => cases e
          | non => exact absurd rfl hn
          | bl b => unfold At at hv0 hu0; subst hv0 hu0; exact ⟨rfl, nofun, rfl⟩
          | int i => unfold At at hv0 hu0; subst hv0 hu0; exact ⟨rfl, nofun, rfl⟩
          | str w => unfold At at hv0 hu0; obtain ⟨rfl, _⟩ := hv0; obtain ⟨rfl, _⟩ := hu0; exact ⟨rfl, nofun, rfl⟩
          | dic => unfold Fits at hft; exact hft.elim
        obtain ⟨rfl, hnn, hsc⟩ := hvu
        rw [decide_eq_false hnn]
        refine iteF ⟨_, rfl, rfl, _, rfl, ?_⟩
        rw [decide_eq_false hnn]
        refine iteF ⟨_, rfl, isi_ty hu0 (by decide) ⟨_, rfl, isi_ty hv0 (by decide) ⟨rfl, _, rfl, ?_⟩⟩⟩
        rw [neq]
        refine iteF ⟨_, rfl, isi_ty hu0 (by decide) ⟨_, rfl, isi_ty hv0 (by decide) ⟨rfl, _, rfl, ?_⟩⟩⟩
        rw [neq]
        refine iteF ⟨_, rfl, _, rfl, hsc, ?_⟩
        rw [deq]
        exact q _ s0

/-! ## what is refused -/
/-! ## things that are no texts -/
def badPiece (d : Dt) : Bool := !isPiece d || decide ((10 : Int) ^ 30 < pieceSize d)
theorem size_pos {d : Dt} (h : isPiece d = true) : 0 ≤ pieceSize d := by
  obtain ⟨w, n, e, _, hw, hn⟩ := isPiece_of h
  unfold pieceSize
  rw [e]
  exact Int.mul_nonneg (by omega) (by omega)
theorem sum_pos : ∀ {ds : List Dt}, (∀ d ∈ ds, isPiece d = true) → 0 ≤ (ds.map pieceSize).sum
  | [], _ => by simp
  | d :: ds, h => by
    rw [List.map_cons, List.sum_cons]
    exact Int.add_nonneg (size_pos (h d (List.mem_cons_self ..))) (sum_pos fun x hx => h x (List.mem_cons_of_mem _ hx))
theorem noText_of {A B : List Dt} {d : Dt} (hd : badPiece d = true) (hA : ∀ x ∈ A, isPiece x = true) (hB : ∀ x ∈ B, isPiece x = true) : isText (.lst (A ++ [d] ++ B)) = false := by
  unfold isText
  cases hp : isPiece d with
  | false =>
    have : ((Dt.lst (A ++ [d] ++ B)).items.all isPiece) = false := by
      rw [List.all_eq_false]
      exact ⟨d, by show d ∈ A ++ [d] ++ B; simp, by rw [hp]; exact Bool.false_ne_true⟩
    rw [this, Bool.and_false, Bool.false_and]
  | true =>
    unfold badPiece at hd
    rw [hp] at hd
    have h2 : (10 : Int) ^ 30 < pieceSize d := by simpa using hd
    have h3 : ¬ ((Dt.lst (A ++ [d] ++ B)).items.map pieceSize).sum ≤ 10 ^ 30 := by
      show ¬ ((A ++ [d] ++ B).map pieceSize).sum ≤ 10 ^ 30
      rw [List.map_append, List.map_append, List.sum_append, List.sum_append, List.map_cons, List.map_nil, List.sum_cons, List.sum_nil]
      have := sum_pos hA
      have := sum_pos hB
      omega
    rw [decide_eq_false h3, Bool.and_false]
def spNoText (K : PySem.W.Frag) : Sp := fun vs H Q _ => ∃ (p a : Addr) (xs : List V) (ds : List Dt), vs = [.ref p, .ref a] ∧ Spr H p ∧ a ≠ p ∧ H a = some (.lst xs) ∧ Ats K (hid p H) xs ds ∧ (∀ d ∈ ds, isPiece d = true) ∧ NeatD (.lst ds) ∧ deep (.lst ds) ≤ 10 ∧ bulk (.lst ds) ≤ 5000 ∧
  ∀ H' v d, Go p H H' → At K (hid p H') v d → isText d = false → NeatD d → deep d ≤ 10 → bulk d ≤ 7000 → Q v H'
theorem ok__law_no_text (T : Txt K mg w) : FnOk P w K mg base CX0 2 T.f__law_no_text.f T.f__law_no_text.fd ["spring", "text"] (spNoText K) := by
  refine T.f__law_no_text.F.ok sc__law_no_text (fun vs H Q E h => ?_) (fun cdv A outer s H vs Q E hr h => ?_)
  · obtain ⟨p, a, xs, ds, rfl, _⟩ := h
    rfl
  obtain ⟨p, a, xs, ds, rfl, hp, hap, ha, hxs, hpc, hne, hdp, hbk, q⟩ := h
  have hxl := Ats.len hxs
  have hdl := len_bulk (.lst ds)
  have hdl : ds.length ≤ 5000 := by
    have : (Dt.lst ds).items.length = ds.length := rfl
    omega
  refine ⟨_, (pss_cons (ps_set (i := 2) sc__law_no_text.nd rfl (.inl rfl) (pe_call (ok__law_draw T) (hr.mono (by first | decide | omega)) (by rfl) T.f__law_draw.g T.f__law_draw.F.kp T.f__law_draw.b .nil pass0 (pa_cons (pv 0) (pa_cons (pe_op op_add (pe_callB (call_lenK K) (by rfl) T.b_len (by decide +kernel) (pa_cons (pv 1) pa_nil)) pe_int) pa_nil))))
      (pss_cons (ps_set (i := 3) sc__law_no_text.nd rfl (.inl rfl) (pe_lst (lits_cons (lit_tup (lits_cons (lit_str [] (by decide +kernel) (by decide)) (lits_cons lit_int lits_nil)) (by show _ ≤ sizeLine; decide)) (lits_cons (lit_tup (lits_cons (lit_mulS 61 (by rfl) [97] (List.replicate 61 97) (by decide +kernel) (by decide +kernel) (by decide)) (lits_cons lit_int lits_nil)) (by show _ ≤ sizeLine; decide)) (lits_cons (lit_tup (lits_cons (lit_str [65] (by decide +kernel) (by decide)) (lits_cons lit_int lits_nil)) (by show _ ≤ sizeLine; decide)) (lits_cons (lit_tup (lits_cons (lit_str [97, 32, 98] (by decide +kernel) (by decide)) (lits_cons lit_int lits_nil)) (by show _ ≤ sizeLine; decide)) (lits_cons (lit_tup (lits_cons (lit_str [97] (by decide +kernel) (by decide)) (lits_cons lit_int lits_nil)) (by show _ ≤ sizeLine; decide)) (lits_cons (lit_tup (lits_cons (lit_str [97] (by decide +kernel) (by decide)) (lits_cons lit_neg lits_nil)) (by show _ ≤ sizeLine; decide)) (lits_cons (lit_tup (lits_cons (lit_str [97] (by decide +kernel) (by decide)) (lits_cons lit_bl lits_nil)) (by show _ ≤ sizeLine; decide)) (lits_cons (lit_tup (lits_cons (lit_str [97] (by decide +kernel) (by decide)) (lits_cons lit_non lits_nil)) (by show _ ≤ sizeLine; decide)) (lits_cons (lit_tup (lits_cons (lit_str [97] (by decide +kernel) (by decide)) lits_nil) (by show _ ≤ sizeLine; decide)) lits_nil)))))))))))
      (pss_cons (ps_set (i := 3) sc__law_no_text.nd rfl (.inl rfl) (pe_op op_cat (pv 3) (pe_lst (lits_cons (lit_tup (lits_cons (lit_str [97] (by decide +kernel) (by decide)) (lits_cons lit_int (lits_cons lit_int lits_nil))) (by show _ ≤ sizeLine; decide)) (lits_cons (lit_tup (lits_cons lit_int (lits_cons (lit_str [97] (by decide +kernel) (by decide)) lits_nil)) (by show _ ≤ sizeLine; decide)) (lits_cons lit_non (lits_cons (lit_str [97] (by decide +kernel) (by decide)) (lits_cons (lit_tup (lits_cons (lit_str [97] (by decide +kernel) (by decide)) (lits_cons (lit_str [49] (by decide +kernel) (by decide)) lits_nil)) (by show _ ≤ sizeLine; decide)) (lits_cons lit_dic (lits_cons (lit_lst lits_nil (by show _ ≤ sizeLine; decide)) (lits_cons (lit_tup (lits_cons (lit_str [97] (by decide +kernel) (by decide)) (lits_cons (lit_add (lit_pow (a := 10) (b := 30) (by decide) (by rfl) (by rfl)) lit_int (by decide)) lits_nil)) (by show _ ≤ sizeLine; decide)) (lits_cons (lit_tup (lits_cons lit_non (lits_cons lit_int lits_nil)) (by show _ ≤ sizeLine; decide)) lits_nil))))))))))))
      (pss_cons (ps_set (i := 4) sc__law_no_text.nd rfl (.inl rfl) (pe_lst (lits_cons lit_non (lits_cons lit_int (lits_cons (lit_str [97, 98] (by decide +kernel) (by decide)) (lits_cons lit_dic (lits_cons lit_bl (lits_cons (lit_mulL 41 (by rfl) (lit_tup (lits_cons (lit_str [97] (by decide +kernel) (by decide)) (lits_cons lit_int lits_nil)) (by show _ ≤ sizeLine; decide)) (by decide)) (lits_cons (lit_lst (lits_cons (lit_tup (lits_cons (lit_str [97, 98] (by decide +kernel) (by decide)) (lits_cons (lit_pow (a := 10) (b := 30) (by decide) (by rfl) (by rfl)) lits_nil)) (by show _ ≤ sizeLine; decide)) lits_nil) (by show _ ≤ sizeLine; decide)) (lits_cons (lit_lst (lits_cons (lit_tup (lits_cons (lit_str [97] (by decide +kernel) (by decide)) (lits_cons (lit_pow (a := 10) (b := 30) (by decide) (by rfl) (by rfl)) lits_nil)) (by show _ ≤ sizeLine; decide)) (lits_cons (lit_tup (lits_cons (lit_str [97] (by decide +kernel) (by decide)) (lits_cons lit_int lits_nil)) (by show _ ≤ sizeLine; decide)) lits_nil)) (by show _ ≤ sizeLine; decide)) lits_nil))))))))))
      (pss_cons (ps_if (pt_cmpR op_eq (pe_call (ok__law_draw T) (hr.mono (by first | decide | omega)) (by rfl) T.f__law_draw.g T.f__law_draw.F.kp T.f__law_draw.b .nil pass0 (pa_cons (pv 0) (pa_cons pe_int pa_nil))) pe_int (nomark _)) (pss_one (ps_ret (pe_ix ix_seq (pv 4) (pe_call (ok__law_draw T) (hr.mono (by first | decide | omega)) (by rfl) T.f__law_draw.g T.f__law_draw.F.kp T.f__law_draw.b .nil pass0 (pa_cons (pv 0) (pa_cons pe_int pa_nil))) (fun _ _ => rfl)))) pss_nil)
      (pss_one (ps_ret (pe_op op_cat (pe_op op_cat (pe_slice sl_list (pv 1) po_none (po_some (pv 2))) (pe_lst (pa_cons (pe_ix ix_seq (pv 3) (pe_call (ok__law_draw T) (hr.mono (by first | decide | omega)) (by rfl) T.f__law_draw.g T.f__law_draw.F.kp T.f__law_draw.b .nil pass0 (pa_cons (pv 0) (pa_cons pe_int pa_nil))) (fun _ _ => rfl)) pa_nil))) (pe_slice sl_list (pv 1) (po_some (pv 2)) po_none))))))))), ?_⟩
  walk_at "rd"
  refine ⟨_, rfl, _, rfl, len_row (.inl (SqL.of ha)) ⟨_, _, rfl, rfl, p, _, rfl, hp, by omega, small300 (by omega) (by omega), fun H1 r g1 r0 r1 => ?_⟩⟩
  obtain ⟨n, rfl⟩ := Int.eq_ofNat_of_zero_le r0
  have hnl : n ≤ xs.length := by omega
  have hxs1 := Ats.same g1.hid _ _ hxs
  have ha1 := g1.keep _ _ hap ha
  obtain ⟨sF, sS, sC, hps, _⟩ := id g1.spr
  -- some
  intro H2 us1 s2 hus1
  refine ⟨by rw [Ats.len hus1]; show 9 ≤ sizeLine; decide, fun a1 na1 => ⟨_, rfl, ?_⟩⟩
  intro H3 us2 s3 hus2
  have k1 := s3 _ _ (upd_same (H := H2) (a := a1) (o := .lst us1))
  have s23 := (s2.trans (same_upd (o := .lst us1) na1)).trans s3
  have hus1 := Ats.same (since_mono ((same_upd (o := .lst us1) na1).trans s3)) _ _ hus1
  have hus2 := Ats.same (since_left (s2.trans (same_upd (o := .lst us1) na1))) _ _ hus2
  refine ⟨by rw [Ats.len hus2]; show 9 ≤ sizeLine; decide, fun a2 na2 => ⟨a1, a2, us1, us2, rfl, rfl, same_upd na2 _ _ k1, upd_same, ?_, fun a3 na3 => ?_⟩⟩
  · rw [Ats.len hus1, Ats.len hus2]
    show 18 ≤ sizeLine
    decide
  have s34 := (same_upd (o := .lst us2) na2).trans (same_upd (o := .lst (us1 ++ us2)) na3)
  have s13 := s23.trans s34
  have hsome := las_app (Ats.same (since_mono s34) _ _ hus1) (Ats.same (since_mono s34) _ _ hus2)
  have k3 := upd_same (H := upd H3 a2 (.lst us2)) (a := a3) (o := .lst (us1 ++ us2))
  have g3 := g1.same s13
  have na3 : H1 a3 = none := (s23.trans (same_upd (o := .lst us2) na2)).free na3
  generalize upd (upd H3 a2 (.lst us2)) a3 (.lst (us1 ++ us2)) = H4 at *
  clear hus1 hus2 k1
  -- wrong
  intro H5 us4 s5 hus4
  refine ⟨by rw [Ats.len hus4]; show 8 ≤ sizeLine; decide, fun a4 na4 => ?_⟩
  have s6 := s5.trans (same_upd (o := .lst us4) na4)
  have k3 := s6 _ _ k3
  have hsome := Ats.same (since_hid hps) _ _ (Ats.same (since_mono s6) _ _ hsome)
  have hus4 := Ats.same (since_hid hps) _ _ (Ats.same (since_mono (same_upd (o := .lst us4) na4)) _ _ (Ats.same (since_left s13) _ _ hus4))
  have k4 := upd_same (H := H5) (a := a4) (o := .lst us4)
  have g16 := Go.of_same g1.spr (s13.trans s6)
  have ha3p : a3 ≠ p := g1.spr.ne na3
  have ha4p : a4 ≠ p := (g3.same s5).spr.ne na4
  have ha6 := g16.keep _ _ hap ha1
  have hxs6 := Ats.same g16.hid _ _ hxs1
  have g6 := g1.trans g16
  generalize upd H5 a4 (.lst us4) = H6 at *
  refine ⟨_, rfl, p, 3, rfl, g6.spr, by decide, by decide, fun H7 r2 g7 r20 r23 => ⟨rfl, _, rfl, ite2 (fun _ => ?_) (fun _ => ?_)⟩⟩
  · have k4' := g7.keep _ _ ha4p k4
    refine ⟨_, rfl, _, rfl, p, 8, rfl, g7.spr, by decide, by decide, fun H8 r3 g8 r30 r38 => ?_⟩
    obtain ⟨j, rfl⟩ := Int.eq_ofNat_of_zero_le r30
    have hw := Ats.same (g7.trans g8).hid _ _ hus4
    obtain ⟨d, v, hd, hv, hvd⟩ := las_lt hw (show j < 8 by omega) rfl
    have := all_at (f := fun d => !isText d && Tiny d) (by decide +kernel) hd
    simp only [Bool.and_eq_true, Bool.not_eq_true'] at this
    obtain ⟨t1, t2, t3⟩ := Tiny.fit this.2
    exact ix_lst (g8.keep _ _ ha4p k4') (at_ofA (j := j) rfl hv) (q _ _ _ ((g6.trans g7).trans g8) hvd this.1 ⟨t1, by omega, by omega⟩ (by omega) (by omega))
  · have ha7 := g7.keep _ _ hap ha6
    have k3' := g7.keep _ _ ha3p k3
    refine ⟨_, rfl, _, rfl, _, rfl, a, xs, rfl, SqL.of ha7, fun b nb => ?_⟩
    rw [(cut_to hnl).1]
    have hbp : b ≠ p := g7.spr.ne nb
    have gb := go_new (o := .lst (xs.take n)) g7 nb
    have kb := upd_same (H := H7) (a := b) (o := .lst (xs.take n))
    have ha8 := same_upd (o := .lst (xs.take n)) nb _ _ ha7
    have k3'' := same_upd (o := .lst (xs.take n)) nb _ _ k3'
    generalize upd H7 b (.lst (xs.take n)) = H8 at *
    refine ⟨_, rfl, _, rfl, p, 18, rfl, gb.spr, by decide, by decide, fun H9 r3 g9 r30 r318 => ?_⟩
    obtain ⟨j, rfl⟩ := Int.eq_ofNat_of_zero_le r30
    have g69 := gb.trans g9
    have hw := Ats.same g69.hid _ _ hsome
    obtain ⟨d, v, hd, hv, hvd⟩ := las_lt hw (show j < 18 by omega) rfl
    have := all_at (f := fun d => badPiece d && Tiny d) (by decide +kernel) hd
    simp only [Bool.and_eq_true] at this
    obtain ⟨n1, n2, n3⟩ := neat_put (A := ds.take n) (B := ds.drop n) (List.take_append_drop n ds).symm hne hdp hbk this.2
    have h9 := g9.keep _ _ hbp kb
    have ha9 := g9.keep _ _ hap ha8
    refine ix_lst (g9.keep _ _ ha3p k3'') (at_ofA (j := j) rfl hv) ⟨by show 1 ≤ sizeLine; decide, fun c1 nc1 => ?_⟩
    have sc1 := same_upd (o := .lst [v]) nc1
    refine ⟨b, c1, _, _, rfl, rfl, sc1 _ _ h9, upd_same, ?_, fun c2 nc2 => ?_⟩
    · exact Nat.le_trans (show (xs.take n).length + [v].length ≤ 100001 by rw [List.length_take, List.length_singleton]; omega) (by decide)
    have sc2 := sc1.trans (same_upd (o := .lst (xs.take n ++ [v])) nc2)
    have kc2 := upd_same (H := upd H9 c1 (.lst [v])) (a := c2) (o := .lst (xs.take n ++ [v]))
    refine ⟨_, rfl, _, rfl, _, rfl, a, xs, rfl, SqL.of (sc2 _ _ ha9), fun c3 nc3 => ?_⟩
    rw [(cut_to hnl).2]
    have sc3 := sc2.trans (same_upd (o := .lst (xs.drop n)) nc3)
    have kc2' := same_upd (o := .lst (xs.drop n)) nc3 _ _ kc2
    refine ⟨c2, c3, _, _, rfl, rfl, kc2', upd_same, ?_, fun c4 nc4 => ?_⟩
    · exact Nat.le_trans (show (xs.take n ++ [v]).length + (xs.drop n).length ≤ 200001 by rw [List.length_append, List.length_take, List.length_singleton, List.length_drop]; omega) (by decide)
    have sc4 := sc3.trans (same_upd (o := .lst (xs.take n ++ [v] ++ xs.drop n)) nc4)
    have g4 := Go.of_same g9.spr sc4
    have hc4p : c4 ≠ p := (Go.of_same g9.spr sc3).spr.ne nc4
    have hall : Ats K (hid p H9) (xs.take n ++ [v] ++ xs.drop n) (ds.take n ++ [d] ++ ds.drop n) := by
      have hx9 := Ats.same g69.hid _ _ hxs6
      exact las_app (las_app (las_take n hx9) (las_cons hvd las_nil)) (las_drop n hx9)
    refine q _ _ _ ((g6.trans g69).trans g4) (la_lst (by rw [hid_ne hc4p]; exact upd_same) (Ats.same g4.hid _ _ hall)) (noText_of this.1 (fun x hx => hpc x (List.mem_of_mem_take hx)) fun x hx => hpc x (List.mem_of_mem_drop hx)) n1 n2 n3

/-! ## drawn texts, near or far -/
theorem TxtL.hd {p : Addr} {H : Hp} {a : Addr} {ps : Pcs} (h : TxtL p H a ps) : TxtL p (hid p H) a ps := by
  obtain ⟨h1, xs, h2, h3⟩ := h
  exact ⟨h1, xs, by rw [hid_ne h1]; exact h2, prd_same (fun v x ⟨b, e1, e2, e3⟩ => ⟨b, e1, e2, by rw [hid_ne e2]; exact e3⟩) h3⟩
/-- its items -/
theorem TxtL.ats {p : Addr} {H : Hp} {a : Addr} {ps : Pcs} {xs : List V} (h : TxtL p H a ps) (hx : H a = some (.lst xs)) (hg : ∀ x ∈ ps, x.1.length ≤ 60) : Ats K (hid p H) xs (dOf ps).items := by
  obtain ⟨_, ys, h2, h3⟩ := h
  rw [hx] at h2
  cases h2
  clear hx
  show Ats K (hid p H) xs (ps.map fun x => Dt.tup [.str x.1, .int (x.2 : Int)])
  induction h3 with
  | nil => exact las_nil
  | @cons v x xs ps hv t ih =>
    rw [List.map_cons]
    obtain ⟨b, rfl, hb, k⟩ := hv
    exact las_cons (la_tup (by rw [hid_ne hb]; exact k) (las_cons (la_str (Nat.le_trans (hg x (List.mem_cons_self ..)) (by decide))) (las_cons la_int las_nil))) (ih fun y hy => hg y (List.mem_cons_of_mem _ hy))
theorem two_at {H : Hp} {c : Addr} {v u : V} {d e : Dt} (hc : H c = some (.lst [v, u])) (hv : At K H v d) (hu : At K H u e) : At K H (.ref c) (.lst [d, e]) := la_lst hc (las_cons hv (las_cons hu las_nil))
theorem okp_size {w t : Int} (hw0 : 0 ≤ w) : ∀ {qs : Pcs}, (∀ x ∈ qs, OkP w t x) → (size qs : Int) ≤ qs.length * (w * t)
  | [], _ => by simp [size]
  | y :: qs, hq => by
    obtain ⟨h1, h2, h3, h4, h5⟩ := hq y (List.mem_cons_self ..)
    have h6 := okp_size hw0 fun x hx => hq x (List.mem_cons_of_mem _ hx)
    have h7 : (y.1.length : Int) * (y.2 : Int) ≤ w * t := Int.mul_le_mul h3 h5 (by omega) hw0
    rw [size_cons, List.length_cons, Int.natCast_add, Int.natCast_mul, Int.natCast_add, Int.add_mul]
    show _ ≤ _ + ((1 : Nat) : Int) * (w * t)
    rw [show ((1 : Nat) : Int) = 1 from rfl, Int.one_mul]
    omega
structure Far (d : Dt) : Prop where
  text : isText d = true
  fits : Fits d
  deep : BK.deep d ≤ 2
  bulk : BK.bulk d ≤ 5000
theorem okp_far {ps : Pcs} {w t : Int} (hl : (ps.length : Int) ≤ 40) (h : ∀ x ∈ ps, OkP w t x) (hw0 : 1 ≤ w) (hw : w ≤ 60) (ht0 : 1 ≤ t) (ht : t ≤ 100000000000000000000000000) : Good ps ∧ Far (dOf ps) := by
  have hz := okp_size (by omega) h
  have h1 : w * t ≤ 60 * 100000000000000000000000000 := Int.mul_le_mul hw ht (by omega) (by omega)
  have h2 : (ps.length : Int) * (w * t) ≤ 40 * (60 * 100000000000000000000000000) := Int.mul_le_mul hl h1 (Int.mul_nonneg (by omega) (by omega)) (by omega)
  have hg : Good ps := ⟨by omega, fun x hx => ⟨⟨(h x hx).1, (h x hx).2.1, by have := (h x hx).2.2.1; omega⟩, (h x hx).2.2.2.1⟩, by omega⟩
  refine ⟨hg, isText_dOf hg, ?_, ?_, ?_⟩
  · unfold dOf
    simp only [Fits]
    refine fitsAll_of fun d hd => ?_
    obtain ⟨x, hx, rfl⟩ := List.mem_map.mp hd
    simp only [Fits, FitsAll, and_true]
    refine ⟨fun c hc => ?_, ?_⟩
    · have := plain_mem (h x hx).1 hc
      rw [List.contains_iff_mem] at this
      have hk : ∀ c ∈ alpha, c < 4294967296 := by decide
      exact hk c this
    · have := (h x hx).2.2.2.2
      exact Nat.lt_of_le_of_lt (show ((x.2 : Nat) : Int).natAbs ≤ 100000000000000000000000000 by omega) (by decide)
  · unfold dOf
    simp only [BK.deep]
    have : deepAll (ps.map fun x => Dt.tup [.str x.1, .int (x.2 : Int)]) ≤ 1 := deepAll_le fun d hd => by
      obtain ⟨x, hx, rfl⟩ := List.mem_map.mp hd
      simp only [BK.deep, deepAll]
      omega
    omega
  · unfold dOf
    simp only [BK.bulk]
    have : bulkAll (ps.map fun x => Dt.tup [.str x.1, .int (x.2 : Int)]) ≤ (ps.map fun x => Dt.tup [.str x.1, .int (x.2 : Int)]).length * (62 + 1) := bulkAll_le fun d hd => by
      obtain ⟨x, hx, rfl⟩ := List.mem_map.mp hd
      simp only [BK.bulk, bulkAll]
      have := (h x hx).2.2.1
      omega
    rw [List.length_map] at this
    omega
theorem Far.like {d e : Dt} (h : Far d) (n : norm e = norm d) : Far e := by
  refine ⟨by rw [isText_like n]; exact h.text, ?_, ?_, ?_⟩
  · rw [← fits_norm, n, fits_norm]; exact h.fits
  · rw [← deep_norm, n, deep_norm]; exact h.deep
  · rw [← bulk_norm, n, bulk_norm]; exact h.bulk
theorem Far.row {d : Dt} (h : Far d) : isRow d = true := by
  have := h.text
  unfold isText at this
  simp only [Bool.and_eq_true] at this
  exact this.1.1.1
theorem pieces_dOf {ps : Pcs} (hg : Good ps) : ∀ d ∈ (dOf ps).items, isPiece d = true := by
  have := isText_dOf hg
  unfold isText at this
  simp only [Bool.and_eq_true] at this
  exact List.all_eq_true.mp this.1.2
theorem size_isum : ∀ ps : Pcs, (ps.map fun x => (x.1.length : Int) * (x.2 : Int)).sum = ((size ps : Nat) : Int)
  | [] => rfl
  | y :: ps => by rw [List.map_cons, List.sum_cons, size_cons, Int.natCast_add, Int.natCast_mul, size_isum ps]

/-! ## what is refused -/
/-- a told thing handed to a promise over worths -/
theorem lft_d {K : PySem.W.Frag} {sp : SpD} {v : V} {d : Dt} {H : Hp} {Q : VK} {E : XK} (hv : At K H v d) (h : sp [.d d] [] (fun _ _ => True) X0) (q : ∀ x H', Same H H' → Q x H') : lft K sp [v] H Q E :=
  ⟨[.d d], [], [], _, X0, heap0, .cons (show At K _ _ _ by rw [low0]; exact hv) .nil, h, fun w C' v H' ad' _ hR g _ => q v H' (by
    have s := g.low
    rw [low0] at s
    exact s.trans (low_same _ _ _)), contX0⟩
def spTry (f : Dt → Bool) (D : Addr) (K : PySem.W.Frag) : Sp := fun vs H Q E => ∃ v d, vs = [v] ∧ At K H v d ∧ (f d = true → ∀ x H', Same H H' → Q x H') ∧ (f d = false → ∀ H', Same H H' → E (.ref D) none H')
def spBad (f : Dt → Bool) (D : Addr) (K : PySem.W.Frag) : Sp := fun vs H _ E => ∃ v d, vs = [v] ∧ At K H v d ∧ f d = false ∧ ∀ H', Same H H' → E (.ref D) none H'
theorem try_or {k : Nat} {f : Addr} {fd : FuncData} {ps : List Str} {g : Dt → Bool} {D : Addr} {sp : Sp} (h1 : FnOk P w K mg base CX0 k f fd ps sp) (h2 : FnOk P w K mg base (L2.CX P w) k f fd ps (spBad g D K))
    (h : ∀ v d H Q E, At K H v d → g d = true → (∀ x H', Same H H' → Q x H') → sp [v] H Q E) : FnOk P w K mg base (L2.CX P w) k f fd ps (spTry g D K) :=
  FnOk.imp (FnOk.or (FnOk.x h1) h2) fun vs H Q E q => by
    obtain ⟨v, d, rfl, hv, q1, q2⟩ := q
    cases hg : g d with
    | true => exact .inl (h v d H Q E hv hg (q1 hg))
    | false => exact .inr ⟨v, d, rfl, hv, hg, q2 hg⟩
theorem iteN {A B : Prop} {b : Bool} (h : b = false) (q : B) : (if b = true then A else B) := by rw [h, if_neg Bool.false_ne_true]; exact q
theorem iteY {A B : Prop} {b : Bool} (h : b = true) (q : A) : (if b = true then A else B) := by rw [h, if_pos rfl]; exact q
/-! ## stands, of any thing -/
def isStandD (d : Dt) : Bool := isRow d && (match d.items with
  | [t, c, k] => isText t && (isWithin c 0 (size (pcs t) : Nat) && isClip k)
  | _ => false)
theorem ok_is_stand (T : Txt K mg w) : FnOk P w K mg base CX0 6 T.f_is_stand.f T.f_is_stand.fd ["thing"] (spIsPiece isStandD K) := by
  refine T.f_is_stand.F.ok sc_is_stand (fun vs H Q E h => ?_) (fun cdv A outer s H vs Q E hr h => ?_)
  · obtain ⟨v, d, rfl, _⟩ := h
    rfl
  obtain ⟨v, d, rfl, hv, q⟩ := h
  refine ⟨_, (pss_cons (ps_if (PW.pt (pw_or (pt_not (pt_val (pe_call (ok_is_row T) (hr.mono (by first | decide | omega)) (by rfl) T.f_is_row.g T.f_is_row.F.kp T.f_is_row.b .nil pass0 (pa_cons (pv 0) pa_nil)))) (pw_or (pt_cmpR op_ne (pe_callB (call_lenK K) (by rfl) T.b_len (by decide +kernel) (pa_cons (pv 0) pa_nil)) pe_int (nomark _)) (pw_or1 (pt_not (pt_val (pe_call (ok_is_text T) (hr.mono (by first | decide | omega)) (by rfl) T.f_is_text.g T.f_is_text.F.kp T.f_is_text.b .nil pass0 (pa_cons (pe_ix ix_seq (pv 0) pe_int (fun _ _ => rfl)) pa_nil)))))))) (pss_one (ps_ret pe_bl)) pss_nil)
      (pss_one (ps_ret (pe_and (pe_call (ok_is_within T) (hr.mono (by first | decide | omega)) (by rfl) T.f_is_within.g T.f_is_within.F.kp T.f_is_within.b .nil pass0 (pa_cons (pe_ix ix_seq (pv 0) pe_int (fun _ _ => rfl)) (pa_cons pe_int (pa_cons (pe_call (ok_end_of T) (hr.mono (by first | decide | omega)) (by rfl) T.f_end_of.g T.f_end_of.F.kp T.f_end_of.b .nil pass0 (pa_cons (pe_call (ok_spans_of T) (hr.mono (by first | decide | omega)) (by rfl) T.f_spans_of.g T.f_spans_of.F.kp T.f_spans_of.b .nil pass0 (pa_cons (pe_ix ix_seq (pv 0) pe_int (fun _ _ => rfl)) pa_nil)) pa_nil)) pa_nil)))) (pe_one (pe_call (ok_is_clip T) (hr.mono (by first | decide | omega)) (by rfl) T.f_is_clip.g T.f_is_clip.F.kp T.f_is_clip.b .nil pass0 (pa_cons (pe_ix ix_seq (pv 0) pe_int (fun _ _ => rfl)) pa_nil))))))), ?_⟩
  walk_at "rd"
  refine ⟨v, rfl, v, d, rfl, hv, fun H1 s1 => ⟨_, rfl, ?_⟩⟩
  have q0 := q
  have q := q H1 s1
  unfold isStandD at q
  cases hrw : isRow d with
  | false =>
    rw [hrw] at q
    rw [if_pos rfl]
    exact q
  | true =>
    rw [hrw, Bool.true_and] at q
    obtain ⟨a, xs, rfl, hrow, hit⟩ := at_row (At.same s1 _ _ hv) hrw
    have hlen := hit.len
    rw [if_neg (by decide)]
    refine ⟨_, rfl, len_row hrow ⟨rfl, _, rfl, ?_⟩⟩
    have q1 : ∀ H', Same H1 H' → Q (V.bl (isStandD d)) H' := fun H' s => q0 _ (s1.trans s)
    unfold isStandD at q1
    rw [hrw, Bool.true_and] at q1
    revert q q1 hit hlen
    generalize d.items = ds
    intro q hit hlen q1
    have ne : ds.length ≠ 3 → (!decide (V.int (xs.length : Int) = V.int 3)) = true := fun h => by
      rw [hlen, decide_eq_false fun z => h (by have := V.int.inj z; omega)]
      rfl
    match ds, q, q1, hit, hlen, ne with
    | [], q, q1, hit, hlen, ne =>
      rw [if_pos (ne (by simp))]
      exact q
    | [x], q, q1, hit, hlen, ne =>
      rw [if_pos (ne (by simp))]
      exact q
    | [x, y], q, q1, hit, hlen, ne =>
      rw [if_pos (ne (by simp))]
      exact q
    | x :: y :: z :: t :: r, q, q1, hit, hlen, ne =>
      rw [if_pos (ne (by simp only [List.length_cons]; omega))]
      exact q
    | [x, y, z], q, q1, hit, hlen, _ =>
      dsimp only at q q1
      have e3 : (!decide (V.int (xs.length : Int) = V.int 3)) = false := by
        rw [hlen]
        rfl
      obtain ⟨u0, us, rfl, h0, hit⟩ := show ∃ v us, _ from hit
      obtain ⟨u1, us, rfl, h1, hit⟩ := show ∃ v us, _ from hit
      obtain ⟨u2, us, rfl, h2, hit⟩ := show ∃ v us, _ from hit
      have hit : us = [] := hit
      subst hit
      rw [e3, if_neg (by decide)]
      refine ⟨_, rfl, ix_row hrow (atI_nat (j := 0) rfl) ⟨u0, x, rfl, h0, fun H2 s2 => ⟨_, rfl, ?_⟩⟩⟩
      cases ht : isText x with
      | false =>
        have q := q1 H2 s2
        rw [ht] at q
        rw [if_pos (by decide)]
        exact q
      | true =>
        rw [ht, Bool.true_and] at q1
        rw [if_neg (by decide)]
        have hr2 := hrow.same s2
        refine ⟨_, rfl, ix_row hr2 (atI_nat (j := 1) rfl) ⟨_, rfl, ix_row hr2 (atI_nat (j := 0) rfl) ⟨u0, pcs x, rfl, (textAt_of h0 ht).same s2, Good.of ht, fun H3 b s3 hs => ⟨b, pcs x, rfl, hs, u1, y, 0, (size (pcs x) : Nat), rfl, At.same (s2.trans s3) _ _ h1, _, rfl, ?_⟩⟩⟩⟩
        have s13 := s2.trans s3
        cases hw : isWithin y 0 (size (pcs x) : Nat) with
        | false =>
          have q := q1 H3 s13
          rw [hw] at q
          rw [if_neg (by decide)]
          exact q
        | true =>
          rw [hw, Bool.true_and] at q1
          rw [if_pos rfl]
          refine ⟨_, rfl, ix_row (hrow.same s13) (atI_nat (j := 2) rfl) ⟨u2, z, rfl, At.same s13 _ _ h2, ?_⟩⟩
          exact q1 H3 s13
theorem ok_check_stand (T : Txt K mg w) : FnOk P w K mg base CX0 7 T.f_check_stand.f T.f_check_stand.fd ["thing"] (fun vs H Q _ => ∃ v d, vs = [v] ∧ At K H v d ∧ isStandD d = true ∧ ∀ H', Same H H' → Q .non H') := by
  refine T.f_check_stand.F.ok sc_check_stand (fun vs H Q E h => ?_) (fun cdv A outer s H vs Q E hr h => ?_)
  · obtain ⟨v, d, rfl, _⟩ := h
    rfl
  obtain ⟨v, d, rfl, hv, hd, q⟩ := h
  refine ⟨_, (pss_one (ps_if (pt_not (pt_val (pe_call (ok_is_stand T) (hr.mono (by first | decide | omega)) (by rfl) T.f_is_stand.g T.f_is_stand.F.kp T.f_is_stand.b .nil pass0 (pa_cons (pv 0) pa_nil)))) (pss_one ps_never) pss_nil)), ?_⟩
  walk_at "rd"
  exact ⟨v, rfl, v, d, rfl, hv, fun H1 s1 => ⟨_, rfl, iteN (by rw [hd]; rfl) (q _ s1)⟩⟩
theorem bad_check_stand (T : Txt K mg w) : FnOk P w K mg base (L2.CX P w) 7 T.f_check_stand.f T.f_check_stand.fd ["thing"] (spBad isStandD T.x_NoStand.C K) := by
  refine T.f_check_stand.F.okX sc_check_stand (fun vs H Q E h => ?_) (fun cdv A outer s H vs Q E hr h => ?_)
  · obtain ⟨v, d, rfl, _⟩ := h
    rfl
  obtain ⟨v, d, rfl, hv, hd, q⟩ := h
  refine ⟨_, (pss_one (ps_if (pt_not (pt_val (pe_call (ok_is_stand T) (hr.mono (by first | decide | omega)) (by rfl) T.f_is_stand.g T.f_is_stand.F.kp T.f_is_stand.b .nil pass0 (pa_cons (pv 0) pa_nil)))) (pss_one (ps_raise rfl (takes_of rfl rfl rfl rfl) (pmk_own PySem.F.excBase_ValueError T.r_NoStand.q T.x_NoStand.g T.x_NoStand.k T.r_NoStand.rz rfl))) pss_nil)), ?_⟩
  walk_at "rd"
  exact ⟨v, rfl, v, d, rfl, hv, fun H1 s1 => ⟨_, rfl, iteY (by rw [hd]; rfl) (q _ s1)⟩⟩
theorem okx_check_stand (T : Txt K mg w) : FnOk P w K mg base (L2.CX P w) 7 T.f_check_stand.f T.f_check_stand.fd ["thing"] (spTry isStandD T.x_NoStand.C K) :=
  try_or (ok_check_stand T) (bad_check_stand T) fun v d H Q E hv hd q => ⟨v, d, rfl, hv, hd, fun H' s => q _ H' s⟩

/-! ## numbers, keys, hands read -/
def isFigs (z : List Nat) : Bool := z.all ((cd "0123456789").contains ·)
def numIn (z : List Nat) : Option Int := if z = [] ∨ isFigs z = false then none else if z.head? = some 48 ∧ z ≠ [48] then none else if 40 < z.length then some (10 ^ 40) else some ((NumText.digitsVal z : Nat) : Int)
def optI : Option Int → Dt
  | some i => .int i
  | none => .non
theorem figs_digits {z : List Nat} (h : isFigs z = true) : NumText.AllDigits z := fun c hc => by
  have h1 := List.all_eq_true.mp h c hc
  rw [show cd "0123456789" = [48, 49, 50, 51, 52, 53, 54, 55, 56, 57] by decide +kernel] at h1
  simp only [List.contains_iff_mem, List.mem_cons, List.not_mem_nil, or_false] at h1
  omega
def preT1 : List Dt → Prop := fun ds => ∃ z : List Nat, ds = [.str z]
def fNumIn : List Dt → Dt := fun ds => match ds with
  | [.str z] => optI (numIn z)
  | _ => .non
/-! ## elder promises over worths -/
section
theorem fn_adapt {CX : CXT} {k : Nat} {f : Addr} {fd : FuncData} {ps : List Str} {sp : Sp} {pre : List Dt → Prop} {F : List Dt → Dt} (hF : FnOk P w K mg base CX k f fd ps sp) (hl : ∀ ds, pre ds → leaf (F ds) = true)
    (h : ∀ ds vs H Q E, pre ds → Ats K H vs ds → (∀ H' v, Same H H' → At K H' v (F ds) → Q v H') → sp vs H Q E) : FnOk P w K mg base CX k f fd ps (lft K (pureR pre F)) :=
  hF.imp fun vs H Q E x => by
    obtain ⟨ws, C, ad, Qd, Xd, hR, rv, ⟨ds, hr, hp, q⟩, kd, kx⟩ := x
    exact h ds vs H Q E hp (rdss_at hR ds ws vs rv hr) fun H' v e r => kd _ C v H' ad q (hR.same e) (grw_same e) (at_any (hl ds hp) r)
theorem at_blL {L : Hp} {b : Bool} : At K L (.bl b) (.bl b) := by unfold At; rfl
theorem at_nonL {L : Hp} : At K L .non .non := by unfold At; rfl
theorem ats1 {H : Hp} {vs : List V} {d : Dt} (h : Ats K H vs [d]) : ∃ v, vs = [v] ∧ At K H v d := by
  unfold Ats at h
  obtain ⟨v, us, rfl, h1, h2⟩ := h
  unfold Ats at h2
  subst h2
  exact ⟨v, rfl, h1⟩
theorem ats2 {H : Hp} {vs : List V} {d e : Dt} (h : Ats K H vs [d, e]) : ∃ v u, vs = [v, u] ∧ At K H v d ∧ At K H u e := by
  unfold Ats at h
  obtain ⟨v, us, rfl, h1, h2⟩ := h
  obtain ⟨u, rfl, h3⟩ := ats1 h2
  exact ⟨v, u, rfl, h1, h3⟩
theorem ats3 {H : Hp} {vs : List V} {d e f : Dt} (h : Ats K H vs [d, e, f]) : ∃ v u t, vs = [v, u, t] ∧ At K H v d ∧ At K H u e ∧ At K H t f := by
  unfold Ats at h
  obtain ⟨v, us, rfl, h1, h2⟩ := h
  obtain ⟨u, t, rfl, h3, h4⟩ := ats2 h2
  exact ⟨v, u, t, rfl, h1, h3, h4⟩
theorem int_of {H : Hp} {v : V} {i : Int} (h : At K H v (.int i)) : v = .int i := by unfold At at h; exact h
theorem okD_is_row (T : Txt K mg w) : FnOk P w K mg base CX0 1 T.f_is_row.f T.f_is_row.fd ["thing"] (lft K (pureR (fun ds => ∃ d, ds = [d]) fun ds => .bl (isRow (ds.getD 0 .non)))) :=
  fn_adapt (ok_is_row T) (fun _ _ => rfl) fun ds vs H Q E hp ha q => by
    obtain ⟨d, rfl⟩ := hp
    obtain ⟨v, rfl, h1⟩ := ats1 ha
    exact ⟨v, d, rfl, h1, fun H' e => q H' _ e at_blL⟩
theorem okD_is_plain (T : Txt K mg w) : FnOk P w K mg base CX0 1 T.f_is_plain.f T.f_is_plain.fd ["thing"] (lft K (pureR (fun ds => ∃ d, ds = [d]) fun ds => .bl (isPlain (ds.getD 0 .non)))) :=
  fn_adapt (ok_is_plain T) (fun _ _ => rfl) fun ds vs H Q E hp ha q => by
    obtain ⟨d, rfl⟩ := hp
    obtain ⟨v, rfl, h1⟩ := ats1 ha
    exact ⟨v, d, rfl, h1, q H _ (Same.refl _) at_blL⟩
theorem okD_is_within (T : Txt K mg w) : FnOk P w K mg base CX0 2 T.f_is_within.f T.f_is_within.fd ["thing", "low", "high"] (lft K (pureR (fun ds => ∃ d lo hi, ds = [d, .int lo, .int hi]) fun ds => match ds with
  | [d, .int lo, .int hi] => .bl (isWithin d lo hi)
  | _ => .non)) :=
  fn_adapt (ok_is_within T) (fun ds h => by obtain ⟨d, lo, hi, rfl⟩ := h; rfl) fun ds vs H Q E hp ha q => by
    obtain ⟨d, lo, hi, rfl⟩ := hp
    obtain ⟨v, u, t, rfl, h1, h2, h3⟩ := ats3 ha
    have e2 := int_of h2
    have e3 := int_of h3
    subst e2 e3
    exact ⟨v, d, lo, hi, rfl, h1, q H _ (Same.refl _) at_blL⟩
end

/-! ## spans of a text, told whole -/
def spansD : Nat → Pcs → List Dt
  | _, [] => []
  | s, p :: ps => .tup [.int (s : Nat), .int ((s + p.1.length * p.2 : Nat) : Int), .str p.1] :: spansD (s + p.1.length * p.2) ps
theorem spansD_app : ∀ (s : Nat) (a b : Pcs), spansD s (a ++ b) = spansD s a ++ spansD (s + size a) b
  | s, [], b => rfl
  | s, p :: a, b => by
    show _ :: spansD _ (a ++ b) = _ :: (spansD _ a ++ _)
    rw [spansD_app, size_cons, Nat.add_assoc]
theorem spansD_len : ∀ (s : Nat) (a : Pcs), (spansD s a).length = a.length
  | _, [] => rfl
  | s, p :: a => by
    show (spansD _ a).length + 1 = _
    rw [spansD_len, List.length_cons]
theorem text_rows {d : Dt} (h : isText d = true) : isRow d = true ∧ d.items.length ≤ 40 ∧ ∀ e ∈ d.items, isPiece e = true := by
  unfold isText at h
  simp only [Bool.and_eq_true, decide_eq_true_eq] at h
  obtain ⟨⟨⟨h1, h2⟩, h3⟩, _⟩ := h
  exact ⟨h1, h2, List.all_eq_true.mp h3⟩
theorem rowW_row {d : Dt} (h : isRow d = true) {C : Cs} : rowW C (.d d) = some (d.items.map W.d) := by
  cases d with
  | lst l => rfl
  | tup l => rfl
  | _ => cases h
def spSpansD : SpD := fun ws C Q _ => ∃ d, ws = [.d d] ∧ isText d = true ∧ Q (.d (.lst (spansD 0 (pcs d)))) C
theorem okD_spans_of (T : Txt K mg w) : FnOk P w K mg base CX0 1 T.f_spans_of.f T.f_spans_of.fd ["text"] (lft K spSpansD) := by
  refine okD T.f_spans_of.F sc_spans_of (fun ws C Q X h => ?_) (fun cv A out s H E hr => ⟨_, (pss_cons (ps_set (i := 1) sc_spans_of.nd rfl (.inl rfl) (pe_lst pa_nil))
      (pss_cons (ps_set (i := 2) sc_spans_of.nd rfl (.inl rfl) pe_int)
      (pss_cons (ps_for PassesOwn.never rfl (pi_row K (pv 0)) (pg_seqK (n := 2) K rfl (pgs_cons (pg_name (i := 3) sc_spans_of.nd rfl (.inl rfl)) (pgs_cons (pg_name (i := 4) sc_spans_of.nd rfl (.inl rfl)) pgs_nil)))
        (pss_cons (ps_set (i := 5) sc_spans_of.nd rfl (.inl rfl) (pe_op (q_addA K) (pv 2) (pe_op op_mul (pe_callB (call_lenK K) (by rfl) T.b_len (by decide +kernel) (pa_cons (pv 3) pa_nil)) (pv 4))))
      (pss_cons (ps_expr (pe_bmK K PySem.F.plainAttrs_list PySem.F.slot_list_append PySem.F.type_list_append mt_append (pv 1) (pa_cons (pe_tup (pa_cons (pv 2) (pa_cons (pv 5) (pa_cons (pv 3) pa_nil)))) pa_nil)))
      (pss_one (ps_set (i := 2) sc_spans_of.nd rfl (.inl rfl) (pv 5))))))
      (pss_one (ps_ret (pv 1)))))), _, inferInstance, fun ws C Q X h => ?_⟩)
  · obtain ⟨d, rfl, _⟩ := h
    rfl
  obtain ⟨d, rfl, ht, q⟩ := h
  obtain ⟨hrow, hl, hpc⟩ := text_rows ht
  walk_at "dw"
  refine newL_o ?_
  walk_at "dw"
  rw [rowIt_row hrow]
  dsimp only
  refine DFor.dlist (fun i ρ C' => ∃ y3 y4 y5, ρ = [some (.d d), some (.o C.length), some (.d (.int (size ((pcs d).take i) : Nat))), y3, y4, y5] ∧ C' = C ++ [.lst ((spansD 0 ((pcs d).take i)).map W.d)]) ⟨_, _, _, rfl, rfl⟩ ?_ ?_
  · rintro ρ C' ⟨y3, y4, y5, rfl, rfl⟩
    walk_at "dw"
    rw [List.take_of_length_le (show (pcs d).length ≤ d.items.length by unfold pcs; rw [List.length_map]; exact Nat.le_refl _)]
    exact ret.made (Nat.le_refl _) last_at q
  · rintro i x ρ C' hx ⟨y3, y4, y5, rfl, rfl⟩
    obtain ⟨w, n, hit, hrx, hw, hn⟩ := isPiece_of (hpc x (List.mem_of_getElem? hx))
    walk_at "dw"
    rw [rowW_row hrx, hit]
    walk_at "dw"
    have tk : (pcs d).take (i + 1) = (pcs d).take i ++ [(w, n.toNat)] := by
      rw [List.take_add_one]
      congr 1
      show (d.items.map pcOf)[i]?.toList = _
      rw [List.getElem?_map, hx]
      show [pcOf x] = _
      unfold pcOf
      rw [hit]
    have il := (List.getElem?_eq_some_iff.mp hx).1
    have hnn : ((n.toNat : Nat) : Int) = n := Int.toNat_of_nonneg (by omega)
    have sz : size ((pcs d).take (i + 1)) = size ((pcs d).take i) + w.length * n.toNat := by
      rw [tk]
      unfold size
      rw [List.map_append, List.sum_append]
      rfl
    have cz : (size ((pcs d).take i) : Int) + (w.length : Int) * n = ((size ((pcs d).take (i + 1)) : Nat) : Int) := by
      rw [sz, Int.natCast_add, Int.natCast_mul, hnn]
    simp only [last_at]
    rw [cz]
    refine ⟨?_, rfl, ?_, _, _, _, rfl, ?_⟩
    · have := hw.2.2
      exact .inl ⟨by omega, by omega⟩
    · rw [List.length_map, spansD_len, List.length_take]
      omega
    · rw [List.set_append_right _ _ (Nat.le_refl _), Nat.sub_self, tk, spansD_app]
      rw [← tk, Nat.zero_add, List.map_append]
      show _ ++ [Cell.lst (_ ++ [W.d (.tup [.int (size ((pcs d).take i) : Nat), .int (size ((pcs d).take (i + 1)) : Nat), .str w])])] = _ ++ [Cell.lst (_ ++ [W.d (.tup [.int (size ((pcs d).take i) : Nat), .int ((size ((pcs d).take i) + w.length * n.toNat : Nat) : Int), .str w])])]
      rw [sz]
theorem spansD_last {ps : Pcs} (h : ps ≠ []) : ∃ l s z, spansD 0 ps = l ++ [.tup [.int (s : Nat), .int (size ps : Nat), .str z]] := by
  have e := List.dropLast_concat_getLast h
  refine ⟨spansD 0 ps.dropLast, size ps.dropLast, (ps.getLast h).1, ?_⟩
  have sz : size ps = size ps.dropLast + (ps.getLast h).1.length * (ps.getLast h).2 := by
    conv => lhs; rw [← e]
    unfold size
    rw [List.map_append, List.sum_append]
    rfl
  conv => lhs; rw [← e]
  rw [spansD_app, sz, Nat.zero_add]
  rfl
theorem atI_last {α : Type} {xs : List α} (h : xs ≠ []) : atI xs (-1) = some (xs.getLast h) := by
  have e : xs = xs.dropLast ++ [xs.getLast h] := (List.dropLast_concat_getLast h).symm
  have hl := List.length_pos_iff.mpr h
  unfold atI ixN
  rw [if_neg (by decide), if_pos (by omega)]
  show xs[_]? = _
  rw [show ((-1 : Int) + (xs.length : Int)).toNat = xs.length - 1 by omega, List.getElem?_eq_getElem (by omega), List.getLast_eq_getElem]
theorem atI_end {α : Type} {l : List α} {x : α} : atI (l ++ [x]) (-1) = some x := by
  rw [atI_last (by simp)]
  congr 1
  simp
def spEndD : SpD := fun ws C Q _ => ∃ ps : Pcs, ws = [.d (.lst (spansD 0 ps))] ∧ ps.length ≤ 40 ∧ Q (.d (.int (size ps : Nat))) C
theorem okD_end_of (T : Txt K mg w) : FnOk P w K mg base CX0 1 T.f_end_of.f T.f_end_of.fd ["spans"] (lft K spEndD) := by
  refine okD T.f_end_of.F sc_end_of (fun ws C Q X h => ?_) (fun cv A out s H E hr => ⟨_, (pss_one (ps_ret (pe_ifExp (pt_truthK K (pv 0) (by intro _; rfl)) (pe_ix (ix_seqK K) (pe_ix (ix_seqK K) (pv 0) (pe_un un_neg pe_int) (fun _ _ => rfl)) pe_int (fun _ _ => rfl)) pe_int))), _, inferInstance, fun ws C Q X h => ?_⟩)
  · obtain ⟨ps, rfl, _⟩ := h
    rfl
  obtain ⟨ps, rfl, hl, q⟩ := h
  walk_at "dw"
  by_cases h0 : ps = []
  · subst h0
    rw [if_neg (by decide)]
    exact ret.same q
  · obtain ⟨l, s0, z, e⟩ := spansD_last h0
    rw [e]
    rw [if_pos (by simp), atI_end]
    walk_at "dw"
    exact ret.same q
theorem okD_check_stand (T : Txt K mg w) : FnOk P w K mg base CX0 7 T.f_check_stand.f T.f_check_stand.fd ["thing"] (lft K (pureR (fun ds => ∃ d, ds = [d] ∧ isStandD d = true) fun _ => .non)) :=
  fn_adapt (ok_check_stand T) (fun _ _ => rfl) fun ds vs H Q E hp ha q => by
    obtain ⟨d, rfl, hd⟩ := hp
    obtain ⟨v, rfl, h1⟩ := ats1 ha
    exact ⟨v, d, rfl, h1, hd, fun H' e => q H' _ e at_nonL⟩
/-- never asked -/
def spNo : SpD := fun _ _ _ _ => False
theorem never {CX : CXT} {k : Nat} {f : Addr} {fd : FuncData} {ps : List Str} : FnOk P w K mg base CX k f fd ps (lft K spNo) :=
  ⟨fun vs H Q E h => by
    obtain ⟨_, _, _, _, _, _, _, h, _⟩ := h
    exact h.elim, fun A outer s H args us vs Q E r e b v h => by
    obtain ⟨_, _, _, _, _, _, _, h, _⟩ := h
    exact h.elim⟩
theorem ok_Road___init__ (T : Txt K mg w) : FnOk P w K mg base CX0 (9 - 2) T.f_Road___init__.f T.f_Road___init__.fd ["self", "hand", "lengths", "times"] (lft K spNo) := never
theorem okD_is_part (T : Txt K mg w) : FnOk P w K mg base CX0 6 T.f_is_part.f T.f_is_part.fd ["thing"] (lft K spNo) := never
/-- a stand's parts -/
theorem stand_is {d : Dt} (h : isStandD d = true) : ∃ (t : Dt) (c : Nat) (k : List Nat), isRow d = true ∧ d.items = [t, .int (c : Nat), .str k] ∧ isText t = true ∧ c ≤ size (pcs t) ∧ k.length ≤ 60 := by
  unfold isStandD at h
  rw [Bool.and_eq_true] at h
  obtain ⟨h1, h⟩ := h
  split at h
  · rename_i t c k e
    simp only [Bool.and_eq_true] at h
    obtain ⟨ht, hc, hk⟩ := h
    cases c with
    | int c =>
      cases k with
      | str k =>
        unfold isWithin at hc
        simp only [Bool.and_eq_true, decide_eq_true_eq] at hc
        refine ⟨t, c.toNat, k, h1, by rw [e, Int.toNat_of_nonneg hc.1], ht, by omega, ?_⟩
        unfold isClip at hk
        simp only [Bool.and_eq_true, decide_eq_true_eq] at hk
        exact hk.2
      | _ => cases hk
    | _ => cases hc
  · cases h
def lensT (t : Dt) (c : Nat) (k : List Nat) : Dt := .tup [.int (c : Nat), .int ((size (pcs t) : Nat) - (c : Nat) : Int), .int (k.length : Nat)]
def spLensD : SpD := fun ws C Q _ => ∃ d t c k, ws = [.d d] ∧ isRow d = true ∧ d.items = [t, .int (c : Nat), .str k] ∧ isText t = true ∧ Q (.d (lensT t c k)) C
theorem ok_lengths_of (T : Txt K mg w) : FnOk P w K mg base CX0 2 T.f_lengths_of.f T.f_lengths_of.fd ["stand"] (lft K spLensD) := by
  refine okD T.f_lengths_of.F sc_lengths_of (fun ws C Q X h => ?_) (fun cv A out s H E hr => ⟨_, (pss_cons (ps_asg (pv 0) (pg_seqK (n := 3) K rfl (pgs_cons (pg_name (i := 1) sc_lengths_of.nd rfl (.inl rfl)) (pgs_cons (pg_name (i := 2) sc_lengths_of.nd rfl (.inl rfl)) (pgs_cons (pg_name (i := 3) sc_lengths_of.nd rfl (.inl rfl)) pgs_nil)))))
      (pss_one (ps_ret (pe_tup (pa_cons (pv 2) (pa_cons (pe_op op_sub (pe_call (okD_end_of T) (hr.mono (by first | decide | omega)) (by rfl) T.f_end_of.g T.f_end_of.F.kp T.f_end_of.b .nil pass0 (pa_cons (pe_call (okD_spans_of T) (hr.mono (by first | decide | omega)) (by rfl) T.f_spans_of.g T.f_spans_of.F.kp T.f_spans_of.b .nil pass0 (pa_cons (pv 1) pa_nil)) pa_nil)) (pv 2)) (pa_cons (pe_callB (call_lenK K) (by rfl) T.b_len (by decide +kernel) (pa_cons (pv 3) pa_nil)) pa_nil))))))), _, inferInstance, fun ws C Q X h => ?_⟩)
  · obtain ⟨d, t, c, k, rfl, _⟩ := h
    rfl
  obtain ⟨d, t, c, k, rfl, hr1, hit, ht, q⟩ := h
  walk_at "dw"
  rw [rowW_row hr1, hit]
  walk_at "dw"
  have hl : (pcs t).length ≤ 40 := (Good.of ht).few
  refine ⟨t, rfl, ht, ?_⟩
  refine ⟨pcs t, rfl, hl, ?_⟩
  walk_at "dw"
  exact ret.same q
theorem ok_is_play (T : Txt K mg w) : FnOk P w K mg base CX0 7 T.f_is_play.f T.f_is_play.fd ["thing"] (lft K fun ws C Q _ => ws = [.d (.lst [])] ∧ Q (.d (.bl true)) C) := by
  refine okD T.f_is_play.F sc_is_play (fun ws C Q X h => ?_) (fun cv A out s H E hr => ⟨_, (pss_one (ps_ret (pe_and (pe_call (okD_is_row T) (hr.mono (by first | decide | omega)) (by rfl) T.f_is_row.g T.f_is_row.F.kp T.f_is_row.b .nil pass0 (pa_cons (pv 0) pa_nil)) (pe_and (pe_cmpR op_le (pe_callB (call_lenK K) (by rfl) T.b_len (by decide +kernel) (pa_cons (pv 0) pa_nil)) (pe_c_MOST_PARTS T) (nomark _)) (pe_one (pe_callB (q_all K rfl) (by rfl) T.b_all (by decide +kernel) (pa_cons (pe_lcK [1] (pe_lc (own := [("part", 1)]) rfl sc_is_play.nd (pi_row K (pv 0)) (blkOk_by (own := [("part", 1)]) (N := N_is_play) (sc := defScope s_is_play) (by decide +kernel)) (fun _ _ _ _ _ => (pg_name (i := 1) sc_is_play.nd rfl (.inl rfl))) (fun _ _ _ _ _ => pts_nil) (fun _ _ _ _ _ => (pe_call (okD_is_part T) (hr.mono (by first | decide | omega)) (by rfl) T.f_is_part.g T.f_is_part.F.kp T.f_is_part.b .nil pass0 (pa_cons (pv 1) pa_nil))))) pa_nil))))))), _, inferInstance, fun ws C Q X h => ?_⟩)
  · obtain ⟨rfl, _⟩ := h
    rfl
  obtain ⟨rfl, q⟩ := h
  walk_at "dw"
  refine ⟨[.lst []], rdss1 rds_d, ⟨_, rfl⟩, ?_⟩
  walk_at "dw"
  rw [if_pos (by rfl), if_pos (by decide)]
  refine DLc.pureF 0 (fun _ => .d .non) (fun _ => none) (by decide) (fun k C' => ?_) (fun k acc R S lt hS => absurd lt (Nat.not_lt_zero _)) ?_
  · show none = _
    rfl
  walk_at "dw"
  rw [show List.map W.d (List.filterMap (fun x => none) (List.range 0)) = [] from rfl]
  walk_at "dw"
  exact ret.same q
theorem ok_check_play (T : Txt K mg w) : FnOk P w K mg base CX0 8 T.f_check_play.f T.f_check_play.fd ["thing"] (lft K fun ws C Q _ => ws = [.d (.lst [])] ∧ Q (.d .non) C) := by
  refine okD T.f_check_play.F sc_check_play (fun ws C Q X h => ?_) (fun cv A out s H E hr => ⟨_, (pss_one (ps_if (pt_not (pt_val (pe_call (ok_is_play T) (hr.mono (by first | decide | omega)) (by rfl) T.f_is_play.g T.f_is_play.F.kp T.f_is_play.b .nil pass0 (pa_cons (pv 0) pa_nil)))) (pss_one ps_never) pss_nil)), _, inferInstance, fun ws C Q X h => ?_⟩)
  · obtain ⟨rfl, _⟩ := h
    rfl
  obtain ⟨rfl, q⟩ := h
  walk_at "dw"
  exact ret.same q
theorem put_ne {f g : Str} {u v : W} {r : List (Str × W)} (h : g ≠ f) : putW f v ((g, u) :: r) = (g, u) :: putW f v r := by
  show (if g = f then _ else _) = _
  rw [if_neg h]
theorem put_nil {f : Str} {v : W} : putW f v [] = [(f, v)] := rfl
theorem lk_ne {f g : Str} {u : W} {r : List (Str × W)} (h : (f == g) = false) : List.lookup f ((g, u) :: r) = List.lookup f r := by rw [List.lookup_cons, h]
/-- a journey of no parts at i -/
def JoW (c : Addr) (L : Dt) (n : Int) (r : Nat) : Cell := .ins c [("parts", .d (.lst [])), ("ahead", .d L), ("there", .d L), ("roads", .o r), ("size", .d (.int n))]
def spJourney (c : Addr) : SpD := fun ws C Q _ => ∃ (i : Nat) (x y z : Int), ws = [.o i, .d (.lst []), .d (.tup [.int x, .int y, .int z])] ∧ C[i]? = some (.ins c []) ∧ ∀ C' r, (∀ j o, j ≠ i → C[j]? = some o → C'[j]? = some o) → C'[i]? = some (JoW c (.tup [.int x, .int y, .int z]) (x + y) r) → Q (.d .non) C'
theorem ok_Journey___init__ (T : Txt K mg w) : FnOk P w K mg base CX0 9 T.f_Journey___init__.f T.f_Journey___init__.fd ["self", "play", "lengths"] (lft K (spJourney T.k_Journey.C)) := by
  refine okD T.f_Journey___init__.F sc_Journey___init__ (fun ws C Q X h => ?_) (fun cv A out s H E hr => ⟨_, (pss_cons (ps_fldC T.k_Journey.cl T.n_Journey_parts (pv 0) (pv 1))
      (pss_cons (ps_fldC T.k_Journey.cl T.n_Journey_ahead (pv 0) (pv 2))
      (pss_cons (ps_fldC T.k_Journey.cl T.n_Journey_there (pv 0) (pv 2))
      (pss_cons (ps_fldC T.k_Journey.cl T.n_Journey_roads (pv 0) (pe_lst pa_nil))
      (pss_cons (ps_for PassesOwn.never rfl (pi_row K (pv 1)) (pg_seqK (n := 2) K rfl (pgs_cons (pg_name (i := 3) sc_Journey___init__.nd rfl (.inl rfl)) (pgs_cons (pg_name (i := 4) sc_Journey___init__.nd rfl (.inl rfl)) pgs_nil)))
        (pss_cons (ps_set (i := 5) sc_Journey___init__.nd rfl (.inl rfl) (pe_make ⟨T.k_Road.mkk, T.f_Road___init__.m.at_, T.f_Road___init__.m.fn, T.k_Road.kp⟩ (ok_Road___init__ T) (hr.mono (by first | decide | omega)) (by rfl) T.k_Road.g T.f_Road___init__.b .nil pass0 (pa_cons (pv 3) (pa_cons (pe_fldC T.k_Journey.cl T.n_Journey_there (pv 0)) (pa_cons (pv 4) pa_nil)))))
      (pss_cons (ps_expr (pe_bmK K PySem.F.plainAttrs_list PySem.F.slot_list_append PySem.F.type_list_append mt_append (pe_fldC T.k_Journey.cl T.n_Journey_roads (pv 0)) (pa_cons (pv 5) pa_nil)))
      (pss_one (ps_fldC T.k_Journey.cl T.n_Journey_there (pv 0) (pe_fldC T.k_Road.cl T.n_Road_behind (pv 5)))))))
      (pss_one (ps_fldC T.k_Journey.cl T.n_Journey_size (pv 0) (pe_op (q_addA K) (pe_ix (ix_seqK K) (pe_fldC T.k_Journey.cl T.n_Journey_there (pv 0)) pe_int (fun _ _ => rfl)) (pe_ix (ix_seqK K) (pe_fldC T.k_Journey.cl T.n_Journey_there (pv 0)) pe_int (fun _ _ => rfl)))))))))), _, inferInstance, fun ws C Q X h => ?_⟩)
  · obtain ⟨i, x, y, z, rfl, _⟩ := h
    rfl
  obtain ⟨i, x, y, z, rfl, hi, q⟩ := h
  have hli := lt_at hi
  have hst : ∀ x : Cell, (C.set i x)[i]? = some x := fun x => List.getElem?_set_self hli
  walk_at "dw"
  simp only [hi, hst, put_nil]
  rw [put_ne (by decide +kernel), put_nil]
  refine ⟨trivial, by show 0 < 1000; decide, trivial, by show 1 < 1000; decide, ?_⟩
  refine ⟨trivial, by show 2 < 1000; decide, ?_⟩
  rw [put_ne (by decide +kernel), put_ne (by decide +kernel), put_nil]
  refine newL_o ?_
  rw [List.length_set, app_at (hst _)]
  dsimp only
  refine ⟨rfl, by show 3 < 1000; decide, ?_⟩
  rw [put_ne (by decide +kernel), put_ne (by decide +kernel), put_ne (by decide +kernel), put_nil, List.set_append_left _ _ (by rw [List.length_set]; exact hli), List.set_set]
  refine DFor.dlist (ds := []) (fun k ρ C' => ρ = [some (.o i), some (.d (.lst [])), some (.d (.tup [.int x, .int y, .int z])), none, none, none] ∧ C' = C.set i (.ins T.k_Journey.C [("parts", .d (.lst [])), ("ahead", .d (.tup [.int x, .int y, .int z])), ("there", .d (.tup [.int x, .int y, .int z])), ("roads", .o C.length)]) ++ [.lst []]) ⟨rfl, rfl⟩ ?_ (fun k e ρ C' hx _ => by cases hx)
  rintro ρ C' ⟨rfl, rfl⟩
  have hs2 : ∀ X : Cell, (C.set i X ++ [Cell.lst []])[i]? = some X := fun X => app_at (hst X)
  walk_at "dw"
  simp only [hs2]
  rw [lk_ne (by decide +kernel), lk_ne (by decide +kernel), List.lookup_cons_self]
  walk_at "dw"
  simp only [hs2]
  rw [put_ne (by decide +kernel), put_ne (by decide +kernel), put_ne (by decide +kernel), put_ne (by decide +kernel), put_nil, List.set_append_left _ _ (by rw [List.length_set]; exact hli), List.set_set]
  refine ⟨trivial, by show 4 < 1000; decide, ret.same (q _ C.length (fun j o hj ho => app_at (by rw [List.getElem?_set_ne (Ne.symm hj)]; exact ho)) (hs2 _))⟩
def ScW (c : Addr) (sp : Dt) (k : List Nat) (j : Nat) (L : Dt) (n : Int) : Cell := .ins c [("spans", .d sp), ("held", .d (.str k)), ("journey", .o j), ("there", .d L), ("size", .d (.int n))]
def spScene (c : Addr) : SpD := fun ws C Q _ => ∃ (i : Nat) (d t : Dt) (cu : Nat) (k : List Nat), ws = [.o i, .d d, .d (.lst [])] ∧ C[i]? = some (.ins c []) ∧ isRow d = true ∧ d.items = [t, .int (cu : Nat), .str k] ∧ isText t = true ∧ cu ≤ size (pcs t) ∧
  ∀ C' sp j, C'[i]? = some (ScW c sp k j (lensT t cu k) (size (pcs t) : Nat)) → Q (.d .non) C'
theorem ok_Scene___init__ (T : Txt K mg w) : FnOk P w K mg base CX0 11 T.f_Scene___init__.f T.f_Scene___init__.fd ["self", "stand", "play"] (lft K (spScene T.k_Scene.C)) := by
  refine okD T.f_Scene___init__.F sc_Scene___init__ (fun ws C Q X h => ?_) (fun cv A out s H E hr => ⟨_, (pss_cons (ps_fldC T.k_Scene.cl T.n_Scene_spans (pv 0) (pe_call (okD_spans_of T) (hr.mono (by first | decide | omega)) (by rfl) T.f_spans_of.g T.f_spans_of.F.kp T.f_spans_of.b .nil pass0 (pa_cons (pe_ix (ix_seqK K) (pv 1) pe_int (fun _ _ => rfl)) pa_nil)))
      (pss_cons (ps_fldC T.k_Scene.cl T.n_Scene_held (pv 0) (pe_ix (ix_seqK K) (pv 1) pe_int (fun _ _ => rfl)))
      (pss_cons (ps_fldC T.k_Scene.cl T.n_Scene_journey (pv 0) (pe_make ⟨T.k_Journey.mkk, T.f_Journey___init__.m.at_, T.f_Journey___init__.m.fn, T.k_Journey.kp⟩ (ok_Journey___init__ T) (hr.mono (by first | decide | omega)) (by rfl) T.k_Journey.g T.f_Journey___init__.b .nil pass0 (pa_cons (pv 2) (pa_cons (pe_call (ok_lengths_of T) (hr.mono (by first | decide | omega)) (by rfl) T.f_lengths_of.g T.f_lengths_of.F.kp T.f_lengths_of.b .nil pass0 (pa_cons (pv 1) pa_nil)) pa_nil))))
      (pss_cons (ps_fldC T.k_Scene.cl T.n_Scene_there (pv 0) (pe_fldC T.k_Journey.cl T.n_Journey_there (pe_fldC T.k_Scene.cl T.n_Scene_journey (pv 0))))
      (pss_one (ps_fldC T.k_Scene.cl T.n_Scene_size (pv 0) (pe_fldC T.k_Journey.cl T.n_Journey_size (pe_fldC T.k_Scene.cl T.n_Scene_journey (pv 0))))))))), _, inferInstance, fun ws C Q X h => ?_⟩)
  · obtain ⟨i, d, t, cu, k, rfl, _⟩ := h
    rfl
  obtain ⟨i, d, t, cu, k, rfl, hi, hr1, hit, ht, hcu, q⟩ := h
  have hli := lt_at hi
  have hst : ∀ x : Cell, (C.set i x)[i]? = some x := fun x => List.getElem?_set_self hli
  walk_at "dw"
  rw [ixW_row (x := t) hr1 (by rw [hit]; exact atI_0)]
  dsimp only
  refine ⟨t, rfl, ht, ?_⟩
  simp only [hi, put_nil]
  refine ⟨trivial, by show 0 < 1000; decide, ?_⟩
  rw [ixW_row (x := .str k) hr1 (by rw [hit]; exact atI_2)]
  simp only [hst]
  rw [put_ne (by decide +kernel), put_nil]
  refine ⟨trivial, by show 1 < 1000; decide, ?_⟩
  refine ⟨d, t, cu, k, rfl, hr1, hit, ht, ?_⟩
  have hl1 : (C.set i (.ins T.k_Scene.C [("spans", .d (.lst (spansD 0 (pcs t)))), ("held", .d (.str k))])).length = C.length := List.length_set
  have h2 := hst (.ins T.k_Scene.C [("spans", .d (.lst (spansD 0 (pcs t)))), ("held", .d (.str k))])
  generalize C.set i (.ins T.k_Scene.C [("spans", .d (.lst (spansD 0 (pcs t)))), ("held", .d (.str k))]) = C2 at hl1 h2 ⊢
  have hl2 : i < C2.length := by omega
  refine ⟨C2.length, (cu : Nat), (size (pcs t) : Nat) - (cu : Nat), (k.length : Nat), rfl, last_at, fun C3 r keep hj => ⟨rfl, ?_⟩⟩
  have h3 := keep i _ (by omega) (app_at h2)
  have hl3 := lt_at h3
  have hst3 : ∀ x : Cell, (C3.set i x)[i]? = some x := fun x => List.getElem?_set_self hl3
  have hj3 : ∀ x : Cell, (C3.set i x)[C2.length]? = some _ := fun x => by rw [List.getElem?_set_ne (by omega)]; exact hj
  unfold JoW at hj3
  generalize C2.length = jn at hj3 ⊢
  simp only [h3, hst3]
  rw [put_ne (by decide +kernel), put_ne (by decide +kernel), put_nil]
  refine ⟨trivial, by show 2 < 1000; decide, trivial, ?_⟩
  rw [lk_ne (by decide +kernel), lk_ne (by decide +kernel), List.lookup_cons_self]
  simp only [hj3, hst3, List.set_set]
  refine ⟨trivial, ?_⟩
  rw [lk_ne (by decide +kernel), lk_ne (by decide +kernel), List.lookup_cons_self]
  dsimp only
  rw [put_ne (by decide +kernel), put_ne (by decide +kernel), put_ne (by decide +kernel), put_nil]
  refine ⟨trivial, by show 3 < 1000; decide, trivial, ?_⟩
  rw [lk_ne (by decide +kernel), lk_ne (by decide +kernel), List.lookup_cons_self]
  simp only [hj3]
  refine ⟨trivial, ?_⟩
  rw [lk_ne (by decide +kernel), lk_ne (by decide +kernel), lk_ne (by decide +kernel), lk_ne (by decide +kernel), List.lookup_cons_self]
  dsimp only
  rw [put_ne (by decide +kernel), put_ne (by decide +kernel), put_ne (by decide +kernel), put_ne (by decide +kernel), put_nil]
  refine ⟨trivial, by show 4 < 1000; decide, ret.same (q _ (.lst (spansD 0 (pcs t))) jn ?_)⟩
  rw [hst3]
  unfold ScW lensT
  rw [show ((cu : Nat) : Int) + (((size (pcs t) : Nat) : Int) - ((cu : Nat) : Int)) = ((size (pcs t) : Nat) : Int) by omega]
def spSceneOf (c : Addr) : SpD := fun ws C Q _ => ∃ (d t : Dt) (cu : Nat) (k : List Nat), ws = [.d d, .d (.lst [])] ∧ isStandD d = true ∧ d.items = [t, .int (cu : Nat), .str k] ∧
  ∀ C' sp j i, C'[i]? = some (ScW c sp k j (lensT t cu k) (size (pcs t) : Nat)) → Q (.o i) C'
theorem ok_scene_of (T : Txt K mg w) : FnOk P w K mg base CX0 13 T.f_scene_of.f T.f_scene_of.fd ["stand", "play"] (lft K (spSceneOf T.k_Scene.C)) := by
  refine okD T.f_scene_of.F sc_scene_of (fun ws C Q X h => ?_) (fun cv A out s H E hr => ⟨_, (pss_cons (ps_expr (pe_call (okD_check_stand T) (hr.mono (by first | decide | omega)) (by rfl) T.f_check_stand.g T.f_check_stand.F.kp T.f_check_stand.b .nil pass0 (pa_cons (pv 0) pa_nil)))
      (pss_cons (ps_expr (pe_call (ok_check_play T) (hr.mono (by first | decide | omega)) (by rfl) T.f_check_play.g T.f_check_play.F.kp T.f_check_play.b .nil pass0 (pa_cons (pv 1) pa_nil)))
      (pss_one (ps_ret (pe_make ⟨T.k_Scene.mkk, T.f_Scene___init__.m.at_, T.f_Scene___init__.m.fn, T.k_Scene.kp⟩ (ok_Scene___init__ T) (hr.mono (by first | decide | omega)) (by rfl) T.k_Scene.g T.f_Scene___init__.b .nil pass0 (pa_cons (pv 0) (pa_cons (pv 1) pa_nil))))))), _, inferInstance, fun ws C Q X h => ?_⟩)
  · obtain ⟨d, t, cu, k, rfl, _⟩ := h
    rfl
  obtain ⟨d, t, cu, k, rfl, hd, hit, q⟩ := h
  obtain ⟨t', c', k', hr1, hit', ht, hc, hk⟩ := stand_is hd
  rw [hit] at hit'
  injection hit' with e1 hit'
  injection hit' with e2 hit'
  injection hit' with e3 _
  injection e2 with e2
  injection e3 with e3
  subst e1 e3
  obtain rfl : cu = c' := by omega
  walk_at "dw"
  refine ⟨[d], rdss1 rds_d, ⟨d, rfl, hd⟩, ?_⟩
  walk_at "dw"
  refine ⟨C.length, d, t, cu, k, rfl, last_at, hr1, hit, ht, hc, fun C' sp j hC => ⟨rfl, ?_⟩⟩
  exact ret.same (q C' sp j _ hC)
def spSizeD : SpD := fun ws C Q _ => ∃ (d t : Dt) (cu : Nat) (k : List Nat), ws = [.d d, .d (.lst [])] ∧ isStandD d = true ∧ d.items = [t, .int (cu : Nat), .str k] ∧ ∀ C', Q (.d (.tup [.int (size (pcs t) : Nat), .int (cu : Nat)])) C'
theorem ok_size_behind (T : Txt K mg w) : FnOk P w K mg base CX0 14 T.f_size_behind.f T.f_size_behind.fd ["stand", "play"] (lft K spSizeD) := by
  refine okD T.f_size_behind.F sc_size_behind (fun ws C Q X h => ?_) (fun cv A out s H E hr => ⟨_, (pss_cons (ps_set (i := 2) sc_size_behind.nd rfl (.inl rfl) (pe_call (ok_scene_of T) (hr.mono (by first | decide | omega)) (by rfl) T.f_scene_of.g T.f_scene_of.F.kp T.f_scene_of.b .nil pass0 (pa_cons (pv 0) (pa_cons (pv 1) pa_nil))))
      (pss_one (ps_ret (pe_tup (pa_cons (pe_fldC T.k_Scene.cl T.n_Scene_size (pv 2)) (pa_cons (pe_ix (ix_seqK K) (pe_fldC T.k_Scene.cl T.n_Scene_there (pv 2)) pe_int (fun _ _ => rfl)) pa_nil)))))), _, inferInstance, fun ws C Q X h => ?_⟩)
  · obtain ⟨d, t, cu, k, rfl, _⟩ := h
    rfl
  obtain ⟨d, t, cu, k, rfl, hd, hit, q⟩ := h
  walk_at "dw"
  refine ⟨d, t, cu, k, rfl, hd, hit, fun C' sp j i hC => ?_⟩
  unfold ScW at hC
  walk_at "dw"
  simp only [hC]
  rw [lk_ne (by decide +kernel), lk_ne (by decide +kernel), lk_ne (by decide +kernel), lk_ne (by decide +kernel), List.lookup_cons_self]
  refine ⟨trivial, trivial, ?_⟩
  rw [lk_ne (by decide +kernel), lk_ne (by decide +kernel), lk_ne (by decide +kernel), List.lookup_cons_self]
  unfold lensT
  walk_at "dw"
  exact ret.same (q C')
/-- told things handed to a promise over worths that tells a thing -/
theorem lft_d2r {K : PySem.W.Frag} {sp : SpD} {v u : V} {d e r : Dt} {H : Hp} {Q : VK} {E : XK} (hv : At K H v d) (hu : At K H u e) (h : sp [.d d, .d e] [] (fun w _ => w = .d r) X0) (q : ∀ x H', Same H H' → At K H' x r → Q x H') : lft K sp [v, u] H Q E :=
  ⟨[.d d, .d e], [], [], _, X0, heap0, .cons (show At K _ _ _ by rw [low0]; exact hv) (.cons (show At K _ _ _ by rw [low0]; exact hu) .nil), h, fun w C' v H' ad' hw hR g rv => by
    subst hw
    exact q v H' (by
      have s := g.low
      rw [low0] at s
      exact s.trans (low_same _ _ _)) (At.same (low_same _ _ _) _ _ rv), contX0⟩

/-! ## what is refused -/
def spStandBad (T : Txt K mg w) : Sp := fun vs H _ E => ∃ v u d, vs = [v, u] ∧ At K H v d ∧ isStandD d = false ∧ ∀ H', Same H H' → E (.ref T.x_NoStand.C) none H'
theorem okx_check_play (T : Txt K mg w) : FnOk P w K mg base (L2.CX P w) 8 T.f_check_play.f T.f_check_play.fd ["thing"] (lft K spNo) := never
theorem bad_scene_of (T : Txt K mg w) : FnOk P w K mg base (L2.CX P w) 13 T.f_scene_of.f T.f_scene_of.fd ["stand", "play"] (spStandBad T) := by
  refine T.f_scene_of.F.okX sc_scene_of (fun vs H Q E h => ?_) (fun cdv A outer s H vs Q E hr h => ?_)
  · obtain ⟨v, u, d, rfl, _⟩ := h
    rfl
  obtain ⟨v, u, d, rfl, hv, hd, q⟩ := h
  refine ⟨_, (pss_cons (ps_expr (pe_call (okx_check_stand T) (hr.mono (by first | decide | omega)) (by rfl) T.f_check_stand.g T.f_check_stand.F.kp T.f_check_stand.b .nil (passes_call (takes_of rfl rfl rfl rfl) fun _ _ _ _ h => h) (pa_cons (pv 0) pa_nil)))
      (pss_cons (ps_expr (pe_call (okx_check_play T) (hr.mono (by first | decide | omega)) (by rfl) T.f_check_play.g T.f_check_play.F.kp T.f_check_play.b .nil (passes_call (takes_of rfl rfl rfl rfl) fun _ _ _ _ h => h) (pa_cons (pv 1) pa_nil)))
      (pss_one (ps_ret (pe_make ⟨T.k_Scene.mkk, T.f_Scene___init__.m.at_, T.f_Scene___init__.m.fn, T.k_Scene.kp⟩ (ok_Scene___init__ T) (hr.mono (by first | decide | omega)) (by rfl) T.k_Scene.g T.f_Scene___init__.b .nil pass0 (pa_cons (pv 0) (pa_cons (pv 1) pa_nil))))))), ?_⟩
  walk_at "rd"
  exact ⟨v, rfl, v, d, rfl, hv, fun z => (by rw [hd] at z; cases z), fun _ H1 s1 => q _ s1⟩
theorem okx_scene_of (T : Txt K mg w) : FnOk P w K mg base (L2.CX P w) 13 T.f_scene_of.f T.f_scene_of.fd ["stand", "play"] (spStandBad T) := bad_scene_of T
theorem bad_size_behind (T : Txt K mg w) : FnOk P w K mg base (L2.CX P w) 14 T.f_size_behind.f T.f_size_behind.fd ["stand", "play"] (spStandBad T) := by
  refine T.f_size_behind.F.okX sc_size_behind (fun vs H Q E h => ?_) (fun cdv A outer s H vs Q E hr h => ?_)
  · obtain ⟨v, u, d, rfl, _⟩ := h
    rfl
  obtain ⟨v, u, d, rfl, hv, hd, q⟩ := h
  refine ⟨_, (pss_cons (ps_set (i := 2) sc_size_behind.nd rfl (.inl rfl) (pe_call (okx_scene_of T) (hr.mono (by first | decide | omega)) (by rfl) T.f_scene_of.g T.f_scene_of.F.kp T.f_scene_of.b .nil (passes_call (takes_of rfl rfl rfl rfl) fun _ _ _ _ h => h) (pa_cons (pv 0) (pa_cons (pv 1) pa_nil))))
      (pss_one (ps_ret (pe_tup (pa_cons (pe_fldC T.k_Scene.cl T.n_Scene_size (pv 2)) (pa_cons (pe_ix (ix_seqK K) (pe_fldC T.k_Scene.cl T.n_Scene_there (pv 2)) pe_int (fun _ _ => rfl)) pa_nil)))))), ?_⟩
  walk_at "rd"
  exact ⟨v, rfl, u, rfl, v, u, d, rfl, hv, hd, q⟩
theorem okx_size_behind (T : Txt K mg w) : FnOk P w K mg base (L2.CX P w) 14 T.f_size_behind.f T.f_size_behind.fd ["stand", "play"] (spStandBad T) := bad_size_behind T
theorem ok__law_refused (T : Txt K mg w) : FnOk P w K mg base CX0 15 T.f__law_refused.f T.f__law_refused.fd ["thing"] (fun vs H Q _ => ∃ v d, vs = [v] ∧ At K H v d ∧ isStandD d = false ∧ ∀ H', Same H H' → Q (.bl true) H') := by
  refine T.f__law_refused.F.ok sc__law_refused (fun vs H Q E h => ?_) (fun cdv A outer s H vs Q E hr h => ?_)
  · obtain ⟨v, d, rfl, _⟩ := h
    rfl
  obtain ⟨v, d, rfl, hv, hd, q⟩ := h
  refine ⟨_, (pss_cons (ps_tryK (i := 1) (Wout := fun _ _ _ _ => False) rfl rfl sc__law_refused.nd rfl rfl ⟨rfl, by decide, .inl T.x_KeysError.g⟩ takes0
      (fun W pn xe tk _ => (pss_one (ps_expr (pe_callS (okx_size_behind T) (hr.mono (by first | decide | omega)) (by rfl) T.f_size_behind.g T.f_size_behind.F.kp T.f_size_behind.b (fun σ => passAt tk σ) (pa_cons (pv 0) (pa_cons (pe_lst pa_nil) pa_nil))))))
      (fun a oe cls d pn hz hf => by exact (pss_one (ps_ret (pe_callB (call_isS hz hf) (by rfl) T.b_isinstance (by decide +kernel) (pa_cons (pv 1) (pa_cons (pe_cls T.x_NoStand.g) pa_nil)))))))
      (pss_one (ps_ret pe_bl))), ?_⟩
  walk_at "rd"
  refine ⟨_, rfl, by show 0 ≤ sizeLine; decide, fun l nl => ⟨v, .ref l, d, rfl, At.same (same_upd nl) _ _ hv, hd, fun H1 s1 => ?_⟩⟩
  exact ⟨true, exm_of T.x_KeysError T.s_NoStand_KeysError, fun _ a na => ⟨_, rfl, rfl, _, rfl, T.r_NoStand.E, _, _, true, rfl, (fun _ r => r), kit_self, q _ ((same_upd nl).trans s1)⟩, fun z => (by cases z)⟩

/-! ## what is no stand -/
def standD (t : Dt) (c : Nat) (k : List Nat) : Dt := .tup [t, .int (c : Nat), .str k]
theorem txt_at {p : Addr} {H : Hp} {a : Addr} {ps : Pcs} {xs : List V} (h : TxtL p H a ps) (hx : H a = some (.lst xs)) : ∀ (i : Nat) (x : V), xs[i]? = some x → ∃ q, ps[i]? = some q ∧ ∃ t, x = .ref t ∧ H t = some (.tup [.str (tx q.1), .int (q.2 : Nat)]) := by
  obtain ⟨_, ys, h2, h3⟩ := h
  rw [hx] at h2
  cases h2
  clear hx
  induction h3 with
  | nil => intro i x h; cases h
  | @cons v y xs ps hv t ih =>
    intro i x hxi
    cases i with
    | zero =>
      cases hxi
      obtain ⟨b, rfl, hb, k⟩ := hv
      exact ⟨y, rfl, b, rfl, k⟩
    | succ i => exact ih i x hxi
theorem txt_len {p : Addr} {H : Hp} {a : Addr} {ps : Pcs} {xs : List V} (h : TxtL p H a ps) (hx : H a = some (.lst xs)) : xs.length = ps.length := by
  obtain ⟨_, ys, h2, h3⟩ := h
  rw [hx] at h2
  cases h2
  exact prd_len h3
theorem size_sum : ∀ ps : Pcs, (ps.map fun x => ((x.1.length * x.2 : Nat) : Int)).sum = (size ps : Nat)
  | [] => rfl
  | p :: ps => by
    rw [List.map_cons, List.sum_cons, size_sum ps, size_cons, Int.natCast_add]
def env31 (ps : Pcs) (c : Nat) (k : List Nat) : Nat → Dt := fun i => [.non, .non, dOf ps, .int (c : Nat), .str k, .int (size ps : Nat)].getD i .non
def rowA (ps : Pcs) (c : Nat) (k : List Nat) : List Dt := [.tup [dOf ps, .int (-1), .str k], .tup [dOf ps, .int ((size ps : Nat) + 1), .str k], .tup [dOf ps, .bl true, .str k], .tup [dOf ps, .non, .str k]]
def rowB (ps : Pcs) (c : Nat) (k : List Nat) : List Dt := [.tup [dOf ps, .int (c : Nat), .str (List.replicate 61 97)], .tup [dOf ps, .int (c : Nat), .str [65]], .tup [dOf ps, .int (c : Nat), .non], .tup [dOf ps, .int (c : Nat)]]
def rowC (ps : Pcs) (c : Nat) (k : List Nat) : List Dt := [.tup [dOf ps, .int (c : Nat), .str k, .int 0], .non, .int 5, .str [97, 98], .dic]
def rowE (ps : Pcs) (c : Nat) (k : List Nat) (d : Dt) : List Dt := [.tup [d, .int 0, .str k], .tup [.int (c : Nat), dOf ps, .str k], .tup [.str [97, 98, 99], .int 1, .str k], .lst [], .bl true]
theorem bad_stands {ps : Pcs} {c : Nat} {k : List Nat} {d : Dt} (hg : Good ps) (hf : Far (dOf ps)) (hc : c ≤ size ps) (hk : isClip (.str k) = true) (nt : isText d = false) (nd : NeatD d) (dd : deep d ≤ 10) (bd : bulk d ≤ 7000) :
    ∀ x ∈ rowA ps c k ++ rowB ps c k ++ rowC ps c k ++ rowE ps c k d, isStandD x = false ∧ NeatD x ∧ deep x ≤ 11 ∧ bulk x ≤ 7200 := by
  obtain ⟨hk1, hk2⟩ : (∀ c ∈ k, c < 4294967296) ∧ k.length ≤ 60 := by
    unfold isClip at hk
    simp only [Bool.and_eq_true, decide_eq_true_eq] at hk
    refine ⟨fun c hc => ?_, hk.2⟩
    have := List.all_eq_true.mp hk.1 c hc
    rw [List.contains_iff_mem] at this
    have ha : ∀ c ∈ alpha, c < 4294967296 := by decide
    exact ha c this
  have big : (10 : Nat) ^ 30 + 1 < 10 ^ 47 := by decide +kernel
  have h30 := hg.all
  have fk : FitD (.str k) := by unfold FitD; exact hk1
  have ft : FitD (dOf ps) := fitD_of _ hf.fits
  have fi : ∀ {i : Int}, i.natAbs ≤ 10 ^ 30 + 1 → FitD (.int i) := fun h => by unfold FitD; exact Nat.lt_of_le_of_lt h big
  have sz : size (pcs (dOf ps)) = size ps := by rw [pcs_dOf]
  have hd1 := hf.deep
  have hb1 := hf.bulk
  have t3 : ∀ {x y z : Dt}, FitD x → FitD y → FitD z → FitD (.tup [x, y, z]) := fun h1 h2 h3 => by
    unfold FitD
    exact fitDs_of fun d hd => by
      simp only [List.mem_cons, List.not_mem_nil, or_false] at hd
      rcases hd with rfl | rfl | rfl
      · exact h1
      · exact h2
      · exact h3
  have n3 : ∀ {x y z : Dt}, isStandD (.tup [x, y, z]) = false → FitD x → FitD y → FitD z → deep x ≤ 10 → deep y ≤ 10 → deep z ≤ 10 → bulk x + bulk y + bulk z ≤ 7100 → isStandD (.tup [x, y, z]) = false ∧ NeatD (.tup [x, y, z]) ∧ deep (.tup [x, y, z]) ≤ 11 ∧ bulk (.tup [x, y, z]) ≤ 7200 := fun h f1 f2 f3 d1 d2 d3 b => by
    refine ⟨h, ⟨t3 f1 f2 f3, ?_, ?_⟩, ?_, ?_⟩
    · simp only [deep, deepAll]; omega
    · simp only [bulk, bulkAll]; omega
    · simp only [deep, deepAll]; omega
    · simp only [bulk, bulkAll]; omega
  have tn : ∀ {x : Dt}, isStandD x = false → Tiny x = true → isStandD x = false ∧ NeatD x ∧ deep x ≤ 11 ∧ bulk x ≤ 7200 := fun h t => by
    obtain ⟨t1, t2, t3⟩ := Tiny.fit t
    exact ⟨h, ⟨t1, by omega, by omega⟩, by omega, by omega⟩
  have st : ∀ (t c k : Dt), isStandD (.tup [t, c, k]) = (isText t && (isWithin c 0 (size (pcs t) : Nat) && isClip k)) := fun _ _ _ => rfl
  intro x hx
  unfold rowA rowB rowC rowE at hx
  simp only [List.mem_append, List.mem_cons, List.not_mem_nil, or_false] at hx
  rcases hx with ((h | h) | h) | h
  · rcases h with rfl | rfl | rfl | rfl
    · exact n3 (by rw [st]; simp [isWithin]) ft (fi (by decide)) fk (by omega) (by simp [deep]) (by simp [deep]) (by simp only [bulk]; omega)
    · exact n3 (by rw [st, sz]; simp [isWithin]; omega) ft (fi (by omega)) fk (by omega) (by simp [deep]) (by simp [deep]) (by simp only [bulk]; omega)
    · exact n3 (by rw [st]; simp [isWithin]) ft (Tiny.fit (by decide +kernel)).1 fk (by omega) (by simp [deep]) (by simp [deep]) (by simp only [bulk]; omega)
    · exact n3 (by rw [st]; simp [isWithin]) ft (Tiny.fit (by decide +kernel)).1 fk (by omega) (by simp [deep]) (by simp [deep]) (by simp only [bulk]; omega)
  · rcases h with rfl | rfl | rfl | rfl
    · exact n3 (by rw [st, show isClip (.str (List.replicate 61 97)) = false by decide +kernel]; simp) ft (fi (by omega)) (Tiny.fit (by decide +kernel)).1 (by omega) (by simp [deep]) (by simp [deep]) (by simp only [bulk, List.length_replicate]; omega)
    · exact n3 (by rw [st, show isClip (.str [65]) = false by decide +kernel]; simp) ft (fi (by omega)) (Tiny.fit (by decide +kernel)).1 (by omega) (by simp [deep]) (by simp [deep]) (by simp only [bulk, List.length_cons, List.length_nil]; omega)
    · exact n3 (by rw [st, show isClip .non = false by decide +kernel]; simp) ft (fi (by omega)) (Tiny.fit (by decide +kernel)).1 (by omega) (by simp [deep]) (by simp [deep]) (by simp only [bulk]; omega)
    · refine ⟨rfl, ⟨?_, ?_, ?_⟩, ?_, ?_⟩
      · unfold FitD
        exact fitDs_of fun d hd => by
          simp only [List.mem_cons, List.not_mem_nil, or_false] at hd
          rcases hd with rfl | rfl
          · exact ft
          · exact fi (by omega)
      all_goals simp only [deep, deepAll, bulk, bulkAll]; omega
  · rcases h with rfl | rfl | rfl | rfl | rfl
    · refine ⟨rfl, ⟨?_, ?_, ?_⟩, ?_, ?_⟩
      · unfold FitD
        exact fitDs_of fun d hd => by
          simp only [List.mem_cons, List.not_mem_nil, or_false] at hd
          rcases hd with rfl | rfl | rfl | rfl
          · exact ft
          · exact fi (by omega)
          · exact fk
          · exact fi (by decide)
      all_goals simp only [deep, deepAll, bulk, bulkAll]; omega
    all_goals exact tn rfl (by decide +kernel)
  · rcases h with rfl | rfl | rfl | rfl | rfl
    · exact n3 (by rw [st, nt]; rfl) nd.1 (fi (by decide)) fk (by omega) (by simp [deep]) (by simp [deep]) (by simp only [bulk]; omega)
    · exact n3 (by rw [st]; rfl) (fi (by omega)) ft fk (by simp [deep]) (by omega) (by simp [deep]) (by simp only [bulk]; omega)
    · exact n3 (by rw [st]; rfl) (Tiny.fit (by decide +kernel)).1 (fi (by decide)) fk (by simp [deep]) (by simp [deep]) (by simp [deep]) (by simp only [bulk, List.length_cons, List.length_nil]; omega)
    all_goals exact tn rfl (by decide +kernel)
def spNoStand (K : PySem.W.Frag) : Sp := fun vs H Q _ => ∃ (p b a : Addr) (xs : List V) (ps : Pcs) (c : Nat) (k : List Nat), vs = [.ref p, .ref b] ∧ Spr H p ∧ b ≠ p ∧ H b = some (.tup [.ref a, .int (c : Nat), .str (tx k)]) ∧ TxtL p H a ps ∧ H a = some (.lst xs) ∧ Good ps ∧ Far (dOf ps) ∧ c ≤ size ps ∧ isClip (.str k) = true ∧
  ∀ H' v d, Go p H H' → At K (hid p H') v d → isStandD d = false → NeatD d → deep d ≤ 11 → bulk d ≤ 7200 → Q v H'
theorem ok__law_no_stand (T : Txt K mg w) : FnOk P w K mg base CX0 3 T.f__law_no_stand.f T.f__law_no_stand.fd ["spring", "stand"] (spNoStand K) := by
  refine T.f__law_no_stand.F.ok sc__law_no_stand (fun vs H Q E h => ?_) (fun cdv A outer s H vs Q E hr h => ?_)
  · obtain ⟨p, b, a, xs, ps, c, k, rfl, _⟩ := h
    rfl
  obtain ⟨p, b, a, xs, ps, c, k, rfl, hp, hbp, hb, ht, hx, hg, hf, hc, hk, q⟩ := h
  refine ⟨_, (pss_cons (ps_asg (pv 1) (pg_tup (n := 3) rfl (pgs_cons (pg_name (i := 2) sc__law_no_stand.nd rfl (.inl rfl)) (pgs_cons (pg_name (i := 3) sc__law_no_stand.nd rfl (.inl rfl)) (pgs_cons (pg_name (i := 4) sc__law_no_stand.nd rfl (.inl rfl)) pgs_nil)))))
      (pss_cons (ps_set (i := 5) sc__law_no_stand.nd rfl (.inl rfl) (pe_callB (cr_sum rfl) (by rfl) T.b_sum (by decide +kernel) (pa_cons (pe_lc (own := [("word", 7), ("times", 8)]) rfl sc__law_no_stand.nd (pi_seq (pv 2)) (blkOk_by (own := [("word", 7), ("times", 8)]) (N := N__law_no_stand) (sc := defScope s__law_no_stand) (by decide +kernel)) (fun _ _ _ _ _ => (pg_tupK (n := 2) K rfl (pgs_cons (pg_name (i := 7) sc__law_no_stand.nd rfl (.inl rfl)) (pgs_cons (pg_name (i := 8) sc__law_no_stand.nd rfl (.inl rfl)) pgs_nil)))) (fun _ _ _ _ _ => pts_nil) (fun _ _ _ _ _ => (pe_op op_mul (pe_callB (call_lenK K) (by rfl) T.b_len (by decide +kernel) (pa_cons (pv 7) pa_nil)) (pv 8)))) pa_nil)))
      (pss_cons (ps_set (i := 6) sc__law_no_stand.nd rfl (.inl rfl) (tg_new (tgs_cons (tg_tup (tgs_cons (tg_var (U := [2, 3, 4, 5]) (I := [3, 5]) (pv 2) (by decide)) (tgs_cons (tg_lit (U := [2, 3, 4, 5]) (I := [3, 5]) lit_neg) (tgs_cons (tg_var (U := [2, 3, 4, 5]) (I := [3, 5]) (pv 4) (by decide)) (tgs_nil (U := [2, 3, 4, 5]) (I := [3, 5]))))) (fun ρ => few_le (by simp only [List.length_cons, List.length_nil]; omega))) (tgs_cons (tg_tup (tgs_cons (tg_var (U := [2, 3, 4, 5]) (I := [3, 5]) (pv 2) (by decide)) (tgs_cons (tg_num (tn_add (tn_var (U := [2, 3, 4, 5]) (I := [3, 5]) (pv 5) (by decide) (by decide)) (tn_lit (U := [2, 3, 4, 5]) (I := [3, 5])))) (tgs_cons (tg_var (U := [2, 3, 4, 5]) (I := [3, 5]) (pv 4) (by decide)) (tgs_nil (U := [2, 3, 4, 5]) (I := [3, 5]))))) (fun ρ => few_le (by simp only [List.length_cons, List.length_nil]; omega))) (tgs_cons (tg_tup (tgs_cons (tg_var (U := [2, 3, 4, 5]) (I := [3, 5]) (pv 2) (by decide)) (tgs_cons (tg_lit (U := [2, 3, 4, 5]) (I := [3, 5]) lit_bl) (tgs_cons (tg_var (U := [2, 3, 4, 5]) (I := [3, 5]) (pv 4) (by decide)) (tgs_nil (U := [2, 3, 4, 5]) (I := [3, 5]))))) (fun ρ => few_le (by simp only [List.length_cons, List.length_nil]; omega))) (tgs_cons (tg_tup (tgs_cons (tg_var (U := [2, 3, 4, 5]) (I := [3, 5]) (pv 2) (by decide)) (tgs_cons (tg_lit (U := [2, 3, 4, 5]) (I := [3, 5]) lit_non) (tgs_cons (tg_var (U := [2, 3, 4, 5]) (I := [3, 5]) (pv 4) (by decide)) (tgs_nil (U := [2, 3, 4, 5]) (I := [3, 5]))))) (fun ρ => few_le (by simp only [List.length_cons, List.length_nil]; omega))) (tgs_nil (U := [2, 3, 4, 5]) (I := [3, 5])))))) (fun ρ => few_le (by simp only [List.length_cons, List.length_nil]; omega))))
      (pss_cons (ps_set (i := 6) sc__law_no_stand.nd rfl (.inl rfl) (tg_join (pv 6) (tgs_cons (tg_tup (tgs_cons (tg_var (U := [2, 3, 4, 5]) (I := [3, 5]) (pv 2) (by decide)) (tgs_cons (tg_var (U := [2, 3, 4, 5]) (I := [3, 5]) (pv 3) (by decide)) (tgs_cons (tg_lit (U := [2, 3, 4, 5]) (I := [3, 5]) (lit_mulS 61 (by rfl) [97] (List.replicate 61 97) (by decide +kernel) (by decide +kernel) (by decide))) (tgs_nil (U := [2, 3, 4, 5]) (I := [3, 5]))))) (fun ρ => few_le (by simp only [List.length_cons, List.length_nil]; omega))) (tgs_cons (tg_tup (tgs_cons (tg_var (U := [2, 3, 4, 5]) (I := [3, 5]) (pv 2) (by decide)) (tgs_cons (tg_var (U := [2, 3, 4, 5]) (I := [3, 5]) (pv 3) (by decide)) (tgs_cons (tg_lit (U := [2, 3, 4, 5]) (I := [3, 5]) (lit_str [65] (by decide +kernel) (by decide))) (tgs_nil (U := [2, 3, 4, 5]) (I := [3, 5]))))) (fun ρ => few_le (by simp only [List.length_cons, List.length_nil]; omega))) (tgs_cons (tg_tup (tgs_cons (tg_var (U := [2, 3, 4, 5]) (I := [3, 5]) (pv 2) (by decide)) (tgs_cons (tg_var (U := [2, 3, 4, 5]) (I := [3, 5]) (pv 3) (by decide)) (tgs_cons (tg_lit (U := [2, 3, 4, 5]) (I := [3, 5]) lit_non) (tgs_nil (U := [2, 3, 4, 5]) (I := [3, 5]))))) (fun ρ => few_le (by simp only [List.length_cons, List.length_nil]; omega))) (tgs_cons (tg_tup (tgs_cons (tg_var (U := [2, 3, 4, 5]) (I := [3, 5]) (pv 2) (by decide)) (tgs_cons (tg_var (U := [2, 3, 4, 5]) (I := [3, 5]) (pv 3) (by decide)) (tgs_nil (U := [2, 3, 4, 5]) (I := [3, 5])))) (fun ρ => few_le (by simp only [List.length_cons, List.length_nil]; omega))) (tgs_nil (U := [2, 3, 4, 5]) (I := [3, 5])))))) (fun ρ => by simp only [List.length_cons, List.length_nil]; omega)))
      (pss_cons (ps_set (i := 6) sc__law_no_stand.nd rfl (.inl rfl) (tg_join (pv 6) (tgs_cons (tg_tup (tgs_cons (tg_var (U := [2, 3, 4, 5]) (I := [3, 5]) (pv 2) (by decide)) (tgs_cons (tg_var (U := [2, 3, 4, 5]) (I := [3, 5]) (pv 3) (by decide)) (tgs_cons (tg_var (U := [2, 3, 4, 5]) (I := [3, 5]) (pv 4) (by decide)) (tgs_cons (tg_lit (U := [2, 3, 4, 5]) (I := [3, 5]) lit_int) (tgs_nil (U := [2, 3, 4, 5]) (I := [3, 5])))))) (fun ρ => few_le (by simp only [List.length_cons, List.length_nil]; omega))) (tgs_cons (tg_lit (U := [2, 3, 4, 5]) (I := [3, 5]) lit_non) (tgs_cons (tg_lit (U := [2, 3, 4, 5]) (I := [3, 5]) lit_int) (tgs_cons (tg_lit (U := [2, 3, 4, 5]) (I := [3, 5]) (lit_str [97, 98] (by decide +kernel) (by decide))) (tgs_cons (tg_lit (U := [2, 3, 4, 5]) (I := [3, 5]) lit_dic) (tgs_nil (U := [2, 3, 4, 5]) (I := [3, 5]))))))) (fun ρ => by simp only [List.length_cons, List.length_nil]; omega)))
      (pss_cons (ps_set (i := 6) sc__law_no_stand.nd rfl (.inl rfl) (pe_op op_cat (pv 6) (pe_lst (pa_cons (pe_tup (pa_cons (pe_call (ok__law_no_text T) (hr.mono (by first | decide | omega)) (by rfl) T.f__law_no_text.g T.f__law_no_text.F.kp T.f__law_no_text.b .nil pass0 (pa_cons (pv 0) (pa_cons (pv 2) pa_nil))) (pa_cons pe_int (pa_cons (pv 4) pa_nil)))) (pa_cons (pe_tup (pa_cons (pv 3) (pa_cons (pv 2) (pa_cons (pv 4) pa_nil)))) (pa_cons (pe_tup (pa_cons pe_str (pa_cons pe_int (pa_cons (pv 4) pa_nil)))) (pa_cons (pe_lst pa_nil) (pa_cons pe_bl pa_nil))))))))
      (pss_one (ps_ret (pe_ix ix_seq (pv 6) (pe_call (ok__law_draw T) (hr.mono (by first | decide | omega)) (by rfl) T.f__law_draw.g T.f__law_draw.F.kp T.f__law_draw.b .nil pass0 (pa_cons (pv 0) (pa_cons pe_int pa_nil))) (fun _ _ => rfl)))))))))), ?_⟩
  walk_at "rd"
  refine ⟨_, rfl, b, _, rfl, SqT.of hb, rfl, _, _, rfl, _, _, rfl, _, _, rfl, rfl, ?_⟩
  have pc := txt_at ht hx
  refine lc_rowX (a := a) (xs := xs) (G := H) rfl (.inl (SqL.of hx)) (Same.refl _) (fun D i H' => Same H H' ∧ H' D = some (.lst (((ps.take i).map fun x => ((x.1.length * x.2 : Nat) : Int)).map V.int))) (fun D nD => ⟨same_upd nD, upd_same⟩) (fun D i H' h => h.1) (fun D i x H' nD hxi hP => ?_) (fun D H' nD hP => ?_)
  · obtain ⟨⟨z, n⟩, hp2, t, rfl, htp⟩ := pc i x hxi
    obtain ⟨hS, hD⟩ := hP
    refine ⟨t, _, rfl, SqT.of (hS _ _ htp), rfl, _, _, rfl, _, _, rfl, rfl, rfl, ?_⟩
    have hil := (List.getElem?_eq_some_iff.mp hxi).1
    have hz60 : z.length ≤ 60 := (hg.ok (z, n) (List.mem_of_getElem? hp2)).1.2.2
    have tk : ((ps.take (i + 1)).map fun x => ((x.1.length * x.2 : Nat) : Int)).map V.int = ((ps.take i).map fun x => ((x.1.length * x.2 : Nat) : Int)).map V.int ++ [V.int ((z.length * n : Nat) : Int)] := by
      rw [List.take_add_one, hp2, List.map_append, List.map_append]
      rfl
    unfold tYes
    dsimp only
    rw [if_pos rfl]
    walk_at "rd"
    refine ⟨_, rfl, len_tx (by omega) ⟨_, rfl, _, _, rfl, rfl, .inl ⟨by omega, by omega⟩, _, hD, ?_, ?_, ?_⟩⟩
    · rw [List.length_map, List.length_map, List.length_take]
      have := hg.few
      have : sizeLine = 16777216 := by decide
      omega
    · exact same_mut hS nD
    · rw [upd_same, tk, Int.natCast_mul]
  · obtain ⟨hS, hD⟩ := hP
    have lxs : xs.length = ps.length := txt_len ht hx
    refine ⟨D, _, rfl, SqL.of hD, ?_⟩
    rw [List.take_of_length_le (by omega), size_sum]
    have g0 : Go p H H' := .of_same hp hS
    have at2 : ∀ {H2 : Hp}, Same H H2 → At K (hid p H2) (.ref a) (dOf ps) := fun s => At.same (hid_mono s) _ _ (by
      have := ht.ats (K := K) hx fun x h => (hg.ok x h).1.2.2
      unfold dOf at this ⊢
      exact la_lst (by rw [hid_ne ht.1]; exact hx) this)
    have kl : k.length ≤ 1000000 := by
      unfold isClip at hk
      simp only [Bool.and_eq_true, decide_eq_true_eq] at hk
      have := hk.2
      omega
    have sl : ∀ {H2 : Hp} {y6 y7 y8 : Option V}, Same H H2 → Slots K [2, 3, 4, 5] [3, 5] p (env31 ps c k) [some (.ref p), some (.ref b), some (.ref a), some (.int (c : Nat)), some (.str (tx k)), some (.int (size ps : Nat)), y6, y7, y8] H2 := fun {H2 y6 y7 y8} s => by
      obtain ⟨F, S, CC, hsp, _⟩ := hp
      refine ⟨⟨_, s _ _ hsp⟩, fun i hi => ?_, fun i hi => ?_⟩
      · simp only [List.mem_cons, List.not_mem_nil, or_false] at hi
        rcases hi with rfl | rfl | rfl | rfl
        · exact ⟨_, rfl, at2 s⟩
        · exact ⟨_, rfl, la_int⟩
        · exact ⟨_, rfl, la_str kl⟩
        · exact ⟨_, rfl, la_int⟩
      · have big : (10 : Nat) ^ 30 < 10 ^ 100 := by decide +kernel
        have h30 := hg.all
        simp only [List.mem_cons, List.not_mem_nil, or_false] at hi
        rcases hi with rfl | rfl
        · exact ⟨(c : Nat), rfl, Nat.lt_of_le_of_lt (show _ ≤ 10 ^ 30 by omega) big⟩
        · exact ⟨(size ps : Nat), rfl, Nat.lt_of_le_of_lt (show _ ≤ 10 ^ 30 by omega) big⟩
    refine ⟨p, env31 ps c k, sl hS, fun H2 vs l1 s2 n1 hv1 => ?_⟩
    have s12 := hS.trans s2
    have s3 := s12.trans (same_upd (o := .lst vs) n1)
    refine ⟨p, env31 ps c k, l1, vs, rowA ps c k, sl s3, rfl, upd_same, ats_sm (hid_mono (same_upd n1)) hv1, by show 4 ≤ 10000; decide, fun H3 vs2 l2 s4 n2 hv2 => ?_⟩
    have s5 := (s3.trans s4).trans (same_upd (o := .lst vs2) n2)
    refine ⟨p, env31 ps c k, l2, vs2, rowA ps c k ++ rowB ps c k, sl s5, rfl, upd_same, ats_sm (hid_mono (same_upd n2)) hv2, by show 8 ≤ 10000; decide, fun H4 vs3 l3 s6 n3 hv3 => ?_⟩
    have s7 := (s5.trans s6).trans (same_upd (o := .lst vs3) n3)
    have hv3 := ats_sm (hid_mono (same_upd (o := .lst vs3) n3)) hv3
    have k3 := upd_same (H := H4) (a := l3) (o := .lst vs3)
    have nl3 : l3 ≠ p := (Spr.same hp (s5.trans s6)).ne n3
    generalize upd H4 l3 (.lst vs3) = H5 at s7 hv3 k3 ⊢
    clear hv1 hv2
    have dl : dOf ps = .lst (dOf ps).items := rfl
    have tr := text_rows hf.text
    refine ⟨_, rfl, _, rfl, _, rfl, p, a, xs, (dOf ps).items, rfl, hp.same s7, ht.1, s7 _ _ hx, ats_sm (hid_mono s7) (ht.ats hx fun x h => (hg.ok x h).1.2.2), tr.2.2, ⟨fitD_of _ hf.fits, Nat.le_trans hf.deep (by decide), Nat.le_trans hf.bulk (by decide)⟩, Nat.le_trans hf.deep (by decide), hf.bulk, fun H6 v d g6 av nt nd dd bd => ?_⟩
    have g7 := (Go.of_same hp s7).trans g6
    refine ⟨_, rfl, by show 3 ≤ sizeLine; decide, fun t1 nt1 => ⟨_, rfl, _, rfl, _, rfl, by show 3 ≤ sizeLine; decide, fun t2 nt2 => ⟨_, rfl, by show 3 ≤ sizeLine; decide, fun t3 nt3 => ⟨by show 0 ≤ sizeLine; decide, fun t4 nt4 => ⟨by show 5 ≤ sizeLine; decide, fun t5 nt5 => ?_⟩⟩⟩⟩⟩
    have e1 := same_upd (o := .tup [v, V.int 0, V.str (tx k)]) nt1
    have e2 := same_upd (o := .tup [V.int (c : Nat), V.ref a, V.str (tx k)]) nt2
    have e3 := same_upd (o := .tup [V.str (Str.ofString "abc"), V.int 1, V.str (tx k)]) nt3
    have e4 := same_upd (o := .lst []) nt4
    have e5 := same_upd (o := .lst [V.ref t1, V.ref t2, V.ref t3, V.ref t4, V.bl true]) nt5
    have np1 := g7.spr.ne nt1
    have np2 := (g7.spr.same e1).ne nt2
    have np3 := (g7.spr.same (e1.trans e2)).ne nt3
    have np4 := (g7.spr.same ((e1.trans e2).trans e3)).ne nt4
    have np5 := (g7.spr.same (((e1.trans e2).trans e3).trans e4)).ne nt5
    have e15 := (((e1.trans e2).trans e3).trans e4).trans e5
    have ad : At K (hid p H6) (.ref a) (dOf ps) := At.same (g6.hid) _ _ (At.same (hid_mono s7) _ _ (at2 (Same.refl _)))
    have h1 := (((e2.trans e3).trans e4).trans e5) _ _ (upd_same (H := H6) (a := t1) (o := .tup [v, V.int 0, V.str (tx k)]))
    have h2 := ((e3.trans e4).trans e5) _ _ (upd_same (H := upd H6 t1 (.tup [v, V.int 0, V.str (tx k)])) (a := t2) (o := .tup [V.int (c : Nat), V.ref a, V.str (tx k)]))
    have h3 := (e4.trans e5) _ _ (upd_same (H := upd (upd H6 t1 (.tup [v, V.int 0, V.str (tx k)])) t2 (.tup [V.int (c : Nat), V.ref a, V.str (tx k)])) (a := t3) (o := .tup [V.str (Str.ofString "abc"), V.int 1, V.str (tx k)]))
    have h4 := e5 _ _ (upd_same (H := upd (upd (upd H6 t1 (.tup [v, V.int 0, V.str (tx k)])) t2 (.tup [V.int (c : Nat), V.ref a, V.str (tx k)])) t3 (.tup [V.str (Str.ofString "abc"), V.int 1, V.str (tx k)])) (a := t4) (o := .lst []))
    have k5 := upd_same (H := upd (upd (upd (upd H6 t1 (.tup [v, V.int 0, V.str (tx k)])) t2 (.tup [V.int (c : Nat), V.ref a, V.str (tx k)])) t3 (.tup [V.str (Str.ofString "abc"), V.int 1, V.str (tx k)])) t4 (.lst [])) (a := t5) (o := .lst [V.ref t1, V.ref t2, V.ref t3, V.ref t4, V.bl true])
    generalize upd (upd (upd (upd (upd H6 t1 (.tup [v, V.int 0, V.str (tx k)])) t2 (.tup [V.int (c : Nat), V.ref a, V.str (tx k)])) t3 (.tup [V.str (Str.ofString "abc"), V.int 1, V.str (tx k)])) t4 (.lst [])) t5 (.lst [V.ref t1, V.ref t2, V.ref t3, V.ref t4, V.bl true]) = H7 at e15 h1 h2 h3 h4 k5 ⊢
    clear e1 e2 e3 e4 e5 nt1 nt2 nt3 nt4 nt5
    have g8 : Go p H H7 := g7.same e15
    have hm := hid_mono (p := p) e15
    have av5 : Ats K (hid p H7) [V.ref t1, V.ref t2, V.ref t3, V.ref t4, V.bl true] (rowE ps c k d) :=
      las_cons (la_tup (by rw [hid_ne np1]; exact h1) (las_cons (At.same hm _ _ av) (las_cons la_int (las_cons (la_str kl) las_nil))))
        (las_cons (la_tup (by rw [hid_ne np2]; exact h2) (las_cons la_int (las_cons (At.same hm _ _ ad) (las_cons (la_str kl) las_nil))))
        (las_cons (la_tup (by rw [hid_ne np3]; exact h3) (las_cons (la_str (w := [97, 98, 99]) (by decide)) (las_cons la_int (las_cons (la_str kl) las_nil))))
        (las_cons (la_lst (by rw [hid_ne np4]; exact h4) las_nil) (las_cons la_bl las_nil))))
    have hv6 := ats_sm hm (ats_sm g6.hid hv3)
    have k37 := e15 _ _ (g6.keep _ _ nl3 k3)
    have l13 : vs3.length = 13 := las_len hv3
    refine ⟨l3, t5, _, _, rfl, rfl, k37, k5, by rw [l13]; show 13 + 5 ≤ sizeLine; decide, fun l4 n4 => ?_⟩
    have e6 := same_upd (o := .lst (vs3 ++ [V.ref t1, V.ref t2, V.ref t3, V.ref t4, V.bl true])) n4
    have g9 := g8.same e6
    have nl4 := g8.spr.ne n4
    have hv9 := ats_sm (hid_mono e6) (las_app hv6 av5)
    have k9 := upd_same (H := H7) (a := l4) (o := .lst (vs3 ++ [V.ref t1, V.ref t2, V.ref t3, V.ref t4, V.bl true]))
    generalize upd H7 l4 (.lst (vs3 ++ [V.ref t1, V.ref t2, V.ref t3, V.ref t4, V.bl true])) = H8 at g9 hv9 k9 ⊢
    generalize vs3 ++ [V.ref t1, V.ref t2, V.ref t3, V.ref t4, V.bl true] = us at hv9 k9 ⊢
    refine ⟨_, rfl, _, rfl, p, _, rfl, g9.spr, by omega, small300 (by omega) (by omega), fun H9 r g10 r0 r1 => ?_⟩
    obtain ⟨n, rfl⟩ := Int.eq_ofNat_of_zero_le r0
    have hv10 := ats_sm g10.hid hv9
    have k10 := g10.keep _ _ nl4 k9
    have bad := bad_stands hg hf hc hk nt nd dd bd
    have l18 : (rowA ps c k ++ rowB ps c k ++ rowC ps c k ++ rowE ps c k d).length = 18 := rfl
    obtain ⟨x, hxe, hxm⟩ : ∃ x, (rowA ps c k ++ rowB ps c k ++ rowC ps c k ++ rowE ps c k d)[n]? = some x ∧ x ∈ rowA ps c k ++ rowB ps c k ++ rowC ps c k ++ rowE ps c k d := ⟨_, List.getElem?_eq_getElem (by rw [l18]; omega), List.getElem_mem _⟩
    obtain ⟨y, hy, ay⟩ := las_get hv10 hxe
    obtain ⟨b1, b2, b3, b4⟩ := bad x hxm
    exact ix_row (.inl (SqL.of k10)) (atI_nat (j := n) hy) (q _ _ _ (g9.trans g10) ay b1 b2 b3 b4)

theorem okp_far9 {ps : Pcs} {w t : Int} (hl : (ps.length : Int) ≤ 40) (h : ∀ x ∈ ps, OkP w t x) (hw0 : 1 ≤ w) (hw : w ≤ 9) (ht0 : 1 ≤ t) (ht : t ≤ 1000000000000000000000000000) : Good ps ∧ Far (dOf ps) := by
  have hz := okp_size (by omega) h
  have h1 : w * t ≤ 9 * 1000000000000000000000000000 := Int.mul_le_mul hw ht (by omega) (by omega)
  have h2 : (ps.length : Int) * (w * t) ≤ 40 * (9 * 1000000000000000000000000000) := Int.mul_le_mul hl h1 (Int.mul_nonneg (by omega) (by omega)) (by omega)
  have hg : Good ps := ⟨by omega, fun x hx => ⟨⟨(h x hx).1, (h x hx).2.1, by have := (h x hx).2.2.1; omega⟩, (h x hx).2.2.2.1⟩, by omega⟩
  refine ⟨hg, isText_dOf hg, ?_, ?_, ?_⟩
  · unfold dOf
    simp only [Fits]
    refine fitsAll_of fun d hd => ?_
    obtain ⟨x, hx, rfl⟩ := List.mem_map.mp hd
    simp only [Fits, FitsAll, and_true]
    refine ⟨fun c hc => ?_, ?_⟩
    · have := plain_mem (h x hx).1 hc
      rw [List.contains_iff_mem] at this
      have hk : ∀ c ∈ alpha, c < 4294967296 := by decide
      exact hk c this
    · have := (h x hx).2.2.2.2
      exact Nat.lt_of_le_of_lt (show ((x.2 : Nat) : Int).natAbs ≤ 1000000000000000000000000000 by omega) (by decide)
  · unfold dOf
    simp only [BK.deep]
    have : deepAll (ps.map fun x => Dt.tup [.str x.1, .int (x.2 : Int)]) ≤ 1 := deepAll_le fun d hd => by
      obtain ⟨x, hx, rfl⟩ := List.mem_map.mp hd
      simp only [BK.deep, deepAll]
      omega
    omega
  · unfold dOf
    simp only [BK.bulk]
    have : bulkAll (ps.map fun x => Dt.tup [.str x.1, .int (x.2 : Int)]) ≤ (ps.map fun x => Dt.tup [.str x.1, .int (x.2 : Int)]).length * (62 + 1) := bulkAll_le fun d hd => by
      obtain ⟨x, hx, rfl⟩ := List.mem_map.mp hd
      simp only [BK.bulk, bulkAll]
      have := (h x hx).2.2.1
      omega
    rw [List.length_map] at this
    omega
theorem norm_is {e : Dt} {l : List Dt} (h : norm e = .lst l) : isRow e = true ∧ normAll e.items = l := by
  cases e with
  | lst x => exact ⟨rfl, by unfold norm at h; injection h⟩
  | tup x => exact ⟨rfl, by unfold norm at h; injection h⟩
  | _ => unfold norm at h; cases h
theorem norm_int {e : Dt} {i : Int} (h : norm e = .int i) : e = .int i := by
  cases e with
  | int j => unfold norm at h; exact h
  | _ => unfold norm at h; cases h
theorem norm_str {e : Dt} {z : List Nat} (h : norm e = .str z) : e = .str z := by
  cases e with
  | str j => unfold norm at h; exact h
  | _ => unfold norm at h; cases h
theorem stand_like {e : Dt} {ps : Pcs} {c : Nat} {k : List Nat} (hf : Far (dOf ps)) (hc : c ≤ size ps) (hk : isClip (.str k) = true) (h : norm e = norm (standD (dOf ps) c k)) :
    ∃ t, isStandD e = true ∧ e.items = [t, .int (c : Nat), .str k] ∧ pcs t = ps := by
  have h0 : norm (standD (dOf ps) c k) = .lst [norm (dOf ps), .int (c : Nat), .str k] := rfl
  rw [h0] at h
  obtain ⟨hr, hi⟩ := norm_is h
  generalize hN : norm (dOf ps) = N at hi
  generalize hC : Dt.int (c : Nat) = C at hi
  generalize hS : Dt.str k = S at hi
  revert hi
  generalize he : e.items = l
  intro hi
  match l, he, hi with
  | [], _, hi => cases hi
  | [x], _, hi => cases hi
  | [x, y], _, hi => cases hi
  | x :: y :: z :: t :: r, _, hi => cases hi
  | [x, y, z], he, hi =>
    injection hi with h1 hi
    injection hi with h2 hi
    injection hi with h3 _
    have ey := norm_int (h2.trans hC.symm)
    have ez := norm_str (h3.trans hS.symm)
    subst ey ez
    subst hC hS
    rw [← hN] at h1
    have hx := hf.like h1
    have hp : pcs x = ps := by rw [pcs_like h1, pcs_dOf]
    refine ⟨x, ?_, rfl, hp⟩
    unfold isStandD
    rw [hr, he]
    show (isText x && (isWithin (.int (c : Nat)) 0 (size (pcs x) : Nat) && isClip (.str k))) = true
    rw [hx.text, hp, hk]
    show (true && ((decide ((0 : Int) ≤ (c : Nat)) && decide (((c : Nat) : Int) ≤ (size ps : Nat))) && true)) = true
    simp only [Bool.true_and, Bool.and_true, Bool.and_eq_true, decide_eq_true_eq]
    omega
def spLaw (K : PySem.W.Frag) : Sp := fun vs H Q _ => ∃ (a : Addr) (ns : List Int), vs = [.ref a] ∧ SqL K H a (ns.map V.int) ∧ ns.length ≤ 63 ∧ ∀ H', Q (.bl true) H'
theorem ok_law (T : Txt K mg w) (hm : Mods base) : FnG P w K mg base CX0 16 T.f_law.f T.f_law.fd ["script"] (spLaw K) := by
  refine funG T.f_law.F sc_law (fun vs H Q E h => ?_) (fun cdv A outer s H vs Q E hg hr h => ?_)
  · obtain ⟨a, ns, rfl, _⟩ := h
    rfl
  obtain ⟨a, ns, rfl, hs, hlen, q⟩ := h
  refine ⟨_, (pss_cons (ps_set (i := 1) sc_law.nd rfl (.inl rfl) (pe_call (ok__law_spring T) (hr.mono (by first | decide | omega)) (by rfl) T.f__law_spring.g T.f__law_spring.F.kp T.f__law_spring.b .nil pass0 (pa_cons (pv 0) pa_nil)))
      (pss_cons (ps_for PassesOwn.never rfl (pi_range1 (by rfl) T.b_range (pa_cons (pe_op op_add pe_int (pe_callB (call_min2 rfl) (by rfl) T.b_min (by decide +kernel) (pa_cons (pe_callB (call_lenK K) (by rfl) T.b_len (by decide +kernel) (pa_cons (pv 0) pa_nil)) (pa_cons pe_int pa_nil)))) pa_nil)) (pg_name (i := 2) sc_law.nd rfl (.inl rfl))
        (pss_cons (ps_set (i := 3) sc_law.nd rfl (.inl rfl) (pe_call (ok__law_text T) (hr.mono (by first | decide | omega)) (by rfl) T.f__law_text.g T.f__law_text.F.kp T.f__law_text.b .nil pass0 (pa_cons (pv 1) (pa_cons (pe_ix ix_seq (pe_lst (pa_cons pe_int (pa_cons pe_int pa_nil))) (pe_call (ok__law_draw T) (hr.mono (by first | decide | omega)) (by rfl) T.f__law_draw.g T.f__law_draw.F.kp T.f__law_draw.b .nil pass0 (pa_cons (pv 1) (pa_cons pe_int pa_nil))) (fun _ _ => rfl)) (pa_cons pe_int (pa_cons (pe_ix ix_seq (pe_lst (pa_cons pe_int (pa_cons (pe_op op_pow pe_int pe_int) pa_nil))) (pe_call (ok__law_draw T) (hr.mono (by first | decide | omega)) (by rfl) T.f__law_draw.g T.f__law_draw.F.kp T.f__law_draw.b .nil pass0 (pa_cons (pv 1) (pa_cons pe_int pa_nil))) (fun _ _ => rfl)) pa_nil))))))
      (pss_cons (ps_set (i := 4) sc_law.nd rfl (.inl rfl) (pe_callB (cr_sum rfl) (by rfl) T.b_sum (by decide +kernel) (pa_cons (pe_lc (own := [("word", 10), ("times", 11)]) rfl sc_law.nd (pi_seq (pv 3)) (blkOk_by (own := [("word", 10), ("times", 11)]) (N := N_law) (sc := defScope s_law) (by decide +kernel)) (fun _ _ _ _ _ => (pg_tupK (n := 2) K rfl (pgs_cons (pg_name (i := 10) sc_law.nd rfl (.inl rfl)) (pgs_cons (pg_name (i := 11) sc_law.nd rfl (.inl rfl)) pgs_nil)))) (fun _ _ _ _ _ => pts_nil) (fun _ _ _ _ _ => (pe_op op_mul (pe_callB (call_lenK K) (by rfl) T.b_len (by decide +kernel) (pa_cons (pv 10) pa_nil)) (pv 11)))) pa_nil)))
      (pss_cons (ps_set (i := 5) sc_law.nd rfl (.inl rfl) (pe_ix ix_seq (pe_lst (pa_cons pe_int (pa_cons (pv 4) (pa_cons (pe_call (ok__law_draw T) (hr.mono (by first | decide | omega)) (by rfl) T.f__law_draw.g T.f__law_draw.F.kp T.f__law_draw.b .nil pass0 (pa_cons (pv 1) (pa_cons (pe_op op_add (pv 4) pe_int) pa_nil))) pa_nil)))) (pe_call (ok__law_draw T) (hr.mono (by first | decide | omega)) (by rfl) T.f__law_draw.g T.f__law_draw.F.kp T.f__law_draw.b .nil pass0 (pa_cons (pv 1) (pa_cons pe_int pa_nil))) (fun _ _ => rfl)))
      (pss_cons (ps_set (i := 6) sc_law.nd rfl (.inl rfl) (pe_tup (pa_cons (pv 3) (pa_cons (pv 5) (pa_cons (pe_slice sl_str (pe_call (ok__law_word T) (hr.mono (by first | decide | omega)) (by rfl) T.f__law_word.g T.f__law_word.F.kp T.f__law_word.b .nil pass0 (pa_cons (pv 1) (pa_cons pe_int pa_nil))) po_none (po_some (pe_call (ok__law_draw T) (hr.mono (by first | decide | omega)) (by rfl) T.f__law_draw.g T.f__law_draw.F.kp T.f__law_draw.b .nil pass0 (pa_cons (pv 1) (pa_cons pe_int pa_nil))))) pa_nil)))))
      (pss_cons (ps_par (i := 7) (j := 8) (by rfl) sc_law.nd rfl rfl (by decide) rfl rfl (pa_cons (pe_call (ok__law_handed T) (hr.mono (by first | decide | omega)) (by rfl) T.f__law_handed.g T.f__law_handed.F.kp T.f__law_handed.b .nil pass0 (pa_cons (pv 1) (pa_cons (pv 6) pa_nil))) (pa_cons (pe_call (ok__law_no_stand T) (hr.mono (by first | decide | omega)) (by rfl) T.f__law_no_stand.g T.f__law_no_stand.F.kp T.f__law_no_stand.b .nil pass0 (pa_cons (pv 1) (pa_cons (pv 6) pa_nil))) pa_nil)) (by rfl))
      (pss_cons (ps_set (i := 9) sc_law.nd rfl (.inl rfl) (pe_callB (call_reprD hm hg hr.units) (by rfl) T.b_repr (by decide +kernel) (pa_cons (pe_lst (pa_cons (pv 7) (pa_cons (pv 8) pa_nil))) pa_nil)))
      (pss_cons (ps_if (PW.pt (pw_or (pt_not (pt_val (pe_call (ok__law_same T 3) (hr.mono (by first | decide | omega)) (by rfl) T.f__law_same.g T.f__law_same.F.kp T.f__law_same.b .nil pass0 (pa_cons (pe_lst (pa_cons (pe_call (ok_is_stand T) (hr.mono (by first | decide | omega)) (by rfl) T.f_is_stand.g T.f_is_stand.F.kp T.f_is_stand.b .nil pass0 (pa_cons (pv 7) pa_nil)) (pa_cons (pe_call (ok_is_stand T) (hr.mono (by first | decide | omega)) (by rfl) T.f_is_stand.g T.f_is_stand.F.kp T.f_is_stand.b .nil pass0 (pa_cons (pv 8) pa_nil)) pa_nil))) (pa_cons (pe_lst (pa_cons pe_bl (pa_cons pe_bl pa_nil))) pa_nil))))) (pw_or1 (pt_not (pt_val (pe_call (ok__law_refused T) (hr.mono (by first | decide | omega)) (by rfl) T.f__law_refused.g T.f__law_refused.F.kp T.f__law_refused.b .nil pass0 (pa_cons (pv 8) pa_nil))))))) (pss_one (ps_ret pe_bl)) pss_nil)
      (pss_one (ps_if (PW.pt (pw_or (pt_not (pt_val (pe_call (ok__law_same T 3) (hr.mono (by first | decide | omega)) (by rfl) T.f__law_same.g T.f__law_same.F.kp T.f__law_same.b .nil pass0 (pa_cons (pe_call (ok_size_behind T) (hr.mono (by first | decide | omega)) (by rfl) T.f_size_behind.g T.f_size_behind.F.kp T.f_size_behind.b .nil pass0 (pa_cons (pv 7) (pa_cons (pe_lst pa_nil) pa_nil))) (pa_cons (pe_tup (pa_cons (pv 4) (pa_cons (pv 5) pa_nil))) pa_nil))))) (pw_or1 (pt_cmpR op_ne (pe_callB (call_reprD hm hg hr.units) (by rfl) T.b_repr (by decide +kernel) (pa_cons (pe_lst (pa_cons (pv 7) (pa_cons (pv 8) pa_nil))) pa_nil)) (pv 9) (nomark _))))) (pss_one (ps_ret pe_bl)) pss_nil))))))))))
      (pss_one (ps_ret pe_bl)))), ?_⟩
  walk_at "rd"
  refine ⟨_, rfl, a, ns, rfl, hs, hlen, fun H1 p s1 fp spr => ?_⟩
  refine fr_rng1 ?_
  walk_at "rd"
  refine ⟨_, rfl, len_row (.inl (s1.seq hs)) ⟨_, _, rfl, ?_⟩⟩
  refine ⟨_, _, rfl, rfl, _, rfl, by split <;> omega, by split <;> omega, ForGo.range
    (fun i σ H2 => ∃ y2 y3 y4 y5 y6 y7 y8 y9 y10 y11 : Option V, σ = [some (.ref a), some (.ref p), y2, y3, y4, y5, y6, y7, y8, y9, y10, y11] ∧ Go p H1 H2)
    ⟨_, _, _, _, _, _, _, _, _, _, rfl, Go.refl spr⟩ ?_ ?_⟩
  · rintro i σ H2 hi ⟨y2, y3, y4, y5, y6, y7, y8, y9, y10, y11, rfl, g2⟩
    walk_at "rd"
    -- text
    refine ⟨_, rfl, by show 2 ≤ sizeLine; decide, fun l1 nl1 => ⟨_, rfl, p, 2, rfl, (g2.same (same_upd nl1)).spr, by decide, by decide, fun H3 r g3 r0 r2 => ?_⟩⟩
    have hl1p : l1 ≠ p := g2.spr.ne nl1
    have kl1 := g3.keep _ _ hl1p (upd_same (H := H2) (a := l1) (o := .lst [V.int 9, V.int 39]))
    obtain ⟨mo, hmo, hm1, hm2⟩ : ∃ mo : Int, atI [V.int 9, V.int 39] r = some (.int mo) ∧ 0 ≤ mo ∧ mo ≤ 39 := by
      have : r = 0 ∨ r = 1 := by omega
      rcases this with rfl | rfl
      · exact ⟨9, rfl, by decide, by decide⟩
      · exact ⟨39, rfl, by decide, by decide⟩
    refine ix_lst kl1 hmo ?_
    have g3' := (g2.same (same_upd (o := .lst [V.int 9, V.int 39]) nl1)).trans g3
    refine ⟨_, _, rfl, rfl, ⟨by decide, by decide, by decide⟩, by show 2 ≤ sizeLine; decide, fun l2 nl2 => ⟨_, rfl, p, 2, rfl, (g3'.same (same_upd nl2)).spr, by decide, by decide, fun H4 r g4 r0 r2 => ?_⟩⟩
    have hl2p : l2 ≠ p := g3'.spr.ne nl2
    have kl2 := g4.keep _ _ hl2p (upd_same (H := H3) (a := l2) (o := .lst [V.int 4, V.int (10 ^ (27 : Int).toNat)]))
    obtain ⟨tm, htm, ht1, ht2⟩ : ∃ tm : Int, atI [V.int 4, V.int (10 ^ (27 : Int).toNat)] r = some (.int tm) ∧ 1 ≤ tm ∧ tm ≤ 1000000000000000000000000000 := by
      have : r = 0 ∨ r = 1 := by omega
      rcases this with rfl | rfl
      · exact ⟨4, rfl, by decide, by decide⟩
      · exact ⟨_, rfl, by decide, by decide⟩
    have g4' := (g3'.same (same_upd (o := .lst [V.int 4, V.int (10 ^ (27 : Int).toNat)]) nl2)).trans g4
    refine ix_lst kl2 htm ⟨p, mo, 9, tm, rfl, g4'.spr, by omega, by omega, by decide, by decide, by omega, Nat.lt_of_le_of_lt (show tm.natAbs ≤ 1000000000000000000000000000 by omega) (by decide), fun H5 t ps g5 nt htx hpl hok => ?_⟩
    obtain ⟨hgd, hfar⟩ := okp_far9 (by omega) hok (by decide) (by decide) ht1 ht2
    have g15 := g4'.trans g5
    have h60 : ∀ x ∈ ps, x.1.length ≤ 60 := fun x hx => by have := (hok x hx).2.2.1; omega
    obtain ⟨_, xs, hxs, _⟩ := id htx
    have pc := txt_at htx hxs
    have htp := htx.1
    clear hmo htm hok hpl kl1 kl2 g4 g3 g3' g5 g4' g2 nt
    refine lc_rowX (a := t) (xs := xs) (G := H5) rfl (.inl (SqL.of hxs)) (Same.refl _) (fun D i H' => Same H5 H' ∧ H' D = some (.lst (((ps.take i).map fun x => ((x.1.length * x.2 : Nat) : Int)).map V.int))) (fun D nD => ⟨same_upd nD, upd_same⟩) (fun D i H' h => h.1) (fun D i x H' nD hxi hP => ?_) (fun D H6 nD hP => ?_)
    · obtain ⟨⟨z, n⟩, hp2, t, rfl, htp⟩ := pc i x hxi
      obtain ⟨hS, hD⟩ := hP
      refine ⟨t, _, rfl, SqT.of (hS _ _ htp), rfl, _, _, rfl, _, _, rfl, rfl, rfl, ?_⟩
      have hil := (List.getElem?_eq_some_iff.mp hxi).1
      have hz60 : z.length ≤ 60 := (hgd.ok (z, n) (List.mem_of_getElem? hp2)).1.2.2
      have tk : ((ps.take (i + 1)).map fun x => ((x.1.length * x.2 : Nat) : Int)).map V.int = ((ps.take i).map fun x => ((x.1.length * x.2 : Nat) : Int)).map V.int ++ [V.int ((z.length * n : Nat) : Int)] := by
        rw [List.take_add_one, hp2, List.map_append, List.map_append]
        rfl
      unfold tYes
      dsimp only
      rw [if_pos rfl]
      walk_at "rd"
      refine ⟨_, rfl, len_tx (by omega) ⟨_, rfl, _, _, rfl, rfl, .inl ⟨by omega, by omega⟩, _, hD, ?_, ?_, ?_⟩⟩
      · rw [List.length_map, List.length_map, List.length_take]
        have := hgd.few
        have : sizeLine = 16777216 := by decide
        omega
      · exact same_mut hS nD
      · rw [upd_same, tk, Int.natCast_mul]
    obtain ⟨hS, hD⟩ := hP
    have lxs : xs.length = ps.length := txt_len htx hxs
    refine ⟨D, _, rfl, SqL.of hD, ?_⟩
    rw [List.take_of_length_le (by omega), size_sum]
    have g16 := g15.same hS
    have htx6 := htx.go (.of_same g15.spr hS)
    clear hD pc hxs lxs g15 htx
    have hsz := hgd.all
    have big : (10 : Nat) ^ 30 + 1 < 2 ^ 250 := by decide +kernel
    refine ⟨_, rfl, _, rfl, _, rfl, _, _, rfl, rfl, p, _, rfl, g16.spr, by omega, Nat.lt_of_le_of_lt (show (((size ps : Nat) : Int) + 1).natAbs ≤ 10 ^ 30 + 1 by omega) big, fun H7 r7 g7 a7 b7 => ⟨by show 3 ≤ sizeLine; decide, fun l3 nl3 => ?_⟩⟩
    have g17 := g16.trans g7
    refine ⟨_, rfl, p, 3, rfl, (g17.same (same_upd nl3)).spr, by decide, by decide, fun H8 r g8 r0 r3 => ?_⟩
    have hl3p : l3 ≠ p := g17.spr.ne nl3
    have kl3 := g8.keep _ _ hl3p (upd_same (H := H7) (a := l3) (o := .lst [V.int 0, V.int ((size ps : Nat) : Int), V.int r7]))
    obtain ⟨c, hci, hc⟩ : ∃ c : Nat, atI [V.int 0, V.int ((size ps : Nat) : Int), V.int r7] r = some (.int (c : Nat)) ∧ c ≤ size ps := by
      have : r = 0 ∨ r = 1 ∨ r = 2 := by omega
      rcases this with rfl | rfl | rfl
      · exact ⟨0, rfl, by omega⟩
      · exact ⟨size ps, rfl, by omega⟩
      · obtain ⟨m, rfl⟩ := Int.eq_ofNat_of_zero_le a7
        exact ⟨m, rfl, by omega⟩
    have g18 := (g17.same (same_upd (o := .lst [V.int 0, V.int ((size ps : Nat) : Int), V.int r7]) nl3)).trans g8
    have htx8 := htx6.go ((g7.same (same_upd (o := .lst [V.int 0, V.int ((size ps : Nat) : Int), V.int r7]) nl3)).trans g8)
    clear g7 g8 g16 g17 htx6
    refine ix_lst kl3 hci ⟨_, rfl, _, rfl, _, rfl, p, 60, rfl, g18.spr, by decide, by decide, fun H9 y g9 yne ylen ypl => ?_⟩
    have g19 := g18.trans g9
    refine ⟨_, rfl, p, 61, rfl, g19.spr, by decide, by decide, fun H10 jj g10 j0 j61 => ⟨jj, rfl, tx y, rfl, by
      rw [tx_len]
      exact Nat.le_trans (show y.length ≤ 60 by omega) (by decide), ?_⟩⟩
    obtain ⟨j, rfl⟩ := Int.eq_ofNat_of_zero_le j0
    rw [cut__n]
    refine ⟨by show 3 ≤ sizeLine; decide, fun b nb => ?_⟩
    have g20 := g19.trans g10
    have hbp : b ≠ p := g20.spr.ne nb
    have hk : isClip (.str (y.take j)) = true := by
      have hpl : Plain (y.take j) := List.all_eq_true.mpr fun c hc => List.all_eq_true.mp ypl c (List.mem_of_mem_take hc)
      rw [show isClip (.str (y.take j)) = (isPlain (.str (y.take j)) && decide ((y.take j).length ≤ 60)) from rfl, show isPlain (.str (y.take j)) = true from hpl, Bool.true_and, decide_eq_true_iff, List.length_take]
      omega
    have hk60 : (y.take j).length ≤ 60 := by
      rw [List.length_take]
      omega
    have hkc : ∀ z ∈ y.take j, z < 4294967296 := fun z hz => by
      have := plain_mem ypl (List.mem_of_mem_take hz)
      rw [List.contains_iff_mem] at this
      have hk : ∀ c ∈ alpha, c < 4294967296 := by decide
      exact hk z this
    generalize y.take j = k at *
    have htx10 := (htx8.go (g9.trans g10)).go (go_new (o := .tup [V.ref t, V.int (c : Nat), V.str (tx k)]) (Go.refl g20.spr) nb)
    have kb := upd_same (H := H10) (a := b) (o := .tup [V.ref t, V.int (c : Nat), V.str (tx k)])
    have g21 := g20.same (same_upd (o := .tup [V.ref t, V.int (c : Nat), V.str (tx k)]) nb)
    clear htx8 g9 g10 g18 g19 g20 kl3 hci yne ylen ypl j61 j0
    generalize upd H10 b (.tup [V.ref t, V.int (c : Nat), V.str (tx k)]) = H11 at *
    have fS : Fits (standD (dOf ps) c k) := by
      have f1 := hfar.fits
      unfold standD
      simp only [Fits, FitsAll, and_true]
      exact ⟨f1, Nat.lt_of_le_of_lt (show ((c : Nat) : Int).natAbs ≤ 10 ^ 30 by omega) (by decide), hkc⟩
    have dS : deep (standD (dOf ps) c k) ≤ 3 := by
      have f2 := hfar.deep
      unfold standD
      simp only [deep, deepAll]
      omega
    have bS : bulk (standD (dOf ps) c k) ≤ 6000 := by
      have f3 := hfar.bulk
      unfold standD
      simp only [bulk, bulkAll]
      omega
    refine ⟨_, rfl, _, rfl, p, _, standD (dOf ps) c k, rfl, g21.spr, la_tup (by rw [hid_ne hbp]; exact kb) (las_cons (htx10.hd.at h60) (las_cons la_int (las_cons (la_str (by omega)) las_nil))), rfl, dS, fS, by omega, fun H12 u e g12 hu hn => ?_⟩
    have fe : Fits e := by rw [← fits_norm, hn, fits_norm]; exact fS
    have de : deep e ≤ 3 := by rw [← deep_norm, hn, deep_norm]; exact dS
    have be : bulk e ≤ 6000 := by rw [← bulk_norm, hn, bulk_norm]; exact bS
    obtain ⟨et, hes, hei, hep⟩ := stand_like hfar hc hk hn
    have g22 := g21.trans g12
    have htx12 := htx10.go g12
    obtain ⟨_, xs12, hxs12, _⟩ := id htx12
    refine ⟨_, rfl, _, rfl, p, b, t, xs12, ps, c, k, rfl, g22.spr, hbp, g12.keep _ _ hbp kb, htx12, hxs12, hgd, hfar, hc, hk, fun H13 v odd g13 hv hno hnd hdd hbd => ?_⟩
    have hu8 := At.same g13.hid _ _ hu
    have g18 := g22.trans g13
    have hne2 : NeatD (.lst [e, odd]) := by
      have f1 := fitD_of _ fe
      refine ⟨?_, ?_, ?_⟩
      · unfold FitD FitDs FitDs FitDs
        exact ⟨f1, hnd.1, trivial⟩
      · simp only [deep, deepAll]
        omega
      · simp only [bulk, bulkAll]
        omega
    have hu8s := At.same (hid_same p _) _ _ hu8
    have hv8s := At.same (hid_same p _) _ _ hv
    clear g12 g13 g22 g21 htx10 htx12 hxs12 kb
    refine ⟨_, _, rfl, _, rfl, _, rfl, by show 2 ≤ sizeLine; decide, fun c1 nc1 => ⟨c1, .lst [e, odd], rfl, two_at upd_same (At.same (same_upd nc1) _ _ hu8s) (At.same (same_upd nc1) _ _ hv8s), hne2, ?_⟩⟩
    have sc1 := same_upd (o := .lst [u, v]) nc1
    refine ⟨_, rfl, u, e, rfl, At.same sc1 _ _ hu8s, fun H9 s9 => ⟨_, rfl, v, odd, rfl, At.same (sc1.trans s9) _ _ hv8s, fun H10 s10 => ⟨by show 2 ≤ sizeLine; decide, fun c2 nc2 => ⟨by show 2 ≤ sizeLine; decide, fun c3 nc3 => ?_⟩⟩⟩⟩
    rw [hes, hno] at nc3 ⊢
    have sc3 := same_upd (o := .lst [V.bl true, V.bl false]) nc3
    have a2 : ∀ {H' : Hp} {c : Addr}, H' c = some (.lst [V.bl true, V.bl false]) → At K H' (.ref c) (.lst [.bl true, .bl false]) := fun h => two_at h la_bl la_bl
    refine ⟨_, _, .lst [.bl true, .bl false], rfl, a2 (sc3 _ _ upd_same), a2 upd_same, by simp only [deep, deepAll]; decide, by simp only [Fits, FitsAll, and_self], by simp only [bulk, bulkAll]; decide, fun H11 s11 => ?_⟩
    have s811 := ((sc1.trans s9).trans s10).trans (((same_upd (o := .lst [V.bl true, V.bl false]) nc2).trans sc3).trans s11)
    refine ⟨_, rfl, iteF ?_⟩
    refine ⟨_, rfl, v, odd, rfl, At.same s811 _ _ hv8s, hno, fun H12 s12 => ⟨_, rfl, iteF ?_⟩⟩
    have s812 := s811.trans s12
    refine ⟨_, rfl, by show 0 ≤ sizeLine; decide, fun c4 nc4 => ?_⟩
    have sc4 := same_upd (o := .lst []) nc4
    refine lft_d2r (At.same (s812.trans sc4) _ _ hu8s) (la_lst upd_same las_nil) (r := .tup [.int (size ps : Nat), .int (c : Nat)]) ⟨e, et, c, k, rfl, hes, hei, fun C' => by rw [hep]⟩ fun x H13 s13 hx => ?_
    refine ⟨_, rfl, _, rfl, by show 2 ≤ sizeLine; decide, fun c5 nc5 => ?_⟩
    have sc5 := same_upd (o := .tup [V.int (size ps : Nat), V.int (c : Nat)]) nc5
    refine ⟨x, _, .tup [.int (size ps : Nat), .int (c : Nat)], rfl, At.same sc5 _ _ hx, la_tup upd_same (las_cons la_int (las_cons la_int las_nil)), by simp only [deep, deepAll]; decide, ?_, by simp only [bulk, bulkAll]; decide, fun H14 s14 => ⟨_, rfl, iteF ?_⟩⟩
    · simp only [Fits, FitsAll, and_true]
      exact ⟨Nat.lt_of_le_of_lt (show ((size ps : Nat) : Int).natAbs ≤ 10 ^ 30 by omega) (by decide), Nat.lt_of_le_of_lt (show ((c : Nat) : Int).natAbs ≤ 10 ^ 30 by omega) (by decide)⟩
    have s815 := (((s812.trans sc4).trans s13).trans sc5).trans s14
    refine ⟨_, rfl, _, rfl, by show 2 ≤ sizeLine; decide, fun c6 nc6 => ⟨c6, .lst [e, odd], rfl, two_at upd_same (At.same (s815.trans (same_upd nc6)) _ _ hu8s) (At.same (s815.trans (same_upd nc6)) _ _ hv8s), hne2, ?_⟩⟩
    refine ⟨_, rfl, rfl, _, rfl, ?_⟩
    rw [show (!decide (V.str (shw (.lst [e, odd])) = V.str (shw (.lst [e, odd])))) = false by rw [decide_eq_true rfl]; rfl]
    exact iteF ⟨_, _, _, _, _, _, _, _, _, _, rfl, (g18.same (s815.trans (same_upd nc6)))⟩
  · rintro σ H2 ⟨y2, y3, y4, y5, y6, y7, y8, y9, y10, y11, rfl, g2⟩
    walk_at "rd"
    exact q _

end
theorem all_mk {l : PySem.W.OpenLaw} {w : World} {K : PySem.W.Frag} {h : Heap} {mg : Str → Option Value} {fa : Addr} (X : K.In h) (G : h.Ns mainGlobals mg) (hfa : mg "law" = some (.ref fa))
    {C_Trip : Addr}
    {C_Road : Addr}
    {C_Journey : Addr}
    {C_Scene : Addr}
    {f0 : Addr} {od0 an0 : Option Addr} {sl0 : Array (Option Value)} {oc0 dc0 pm0 cd0 ct0 : Value} {kV0 : Value}
    {f1 : Addr} {od1 an1 : Option Addr} {sl1 : Array (Option Value)} {oc1 dc1 pm1 cd1 ct1 : Value} {kV1 : Value}
    {f2 : Addr} {od2 an2 : Option Addr} {sl2 : Array (Option Value)} {oc2 dc2 pm2 cd2 ct2 : Value} {kV2 : Value}
    {f3 : Addr} {od3 an3 : Option Addr} {sl3 : Array (Option Value)} {oc3 dc3 pm3 cd3 ct3 : Value} {kV3 : Value}
    {f4 : Addr} {od4 an4 : Option Addr} {sl4 : Array (Option Value)} {oc4 dc4 pm4 cd4 ct4 : Value} {kV4 : Value}
    {f5 : Addr} {od5 an5 : Option Addr} {sl5 : Array (Option Value)} {oc5 dc5 pm5 cd5 ct5 : Value} {kV5 : Value}
    {f6 : Addr} {od6 an6 : Option Addr} {sl6 : Array (Option Value)} {oc6 dc6 pm6 cd6 ct6 : Value} {kV6 : Value}
    {f7 : Addr} {od7 an7 : Option Addr} {sl7 : Array (Option Value)} {oc7 dc7 pm7 cd7 ct7 : Value} {kV7 : Value}
    {f8 : Addr} {od8 an8 : Option Addr} {sl8 : Array (Option Value)} {oc8 dc8 pm8 cd8 ct8 : Value} {kV8 : Value}
    {f9 : Addr} {od9 an9 : Option Addr} {sl9 : Array (Option Value)} {oc9 dc9 pm9 cd9 ct9 : Value} {kV9 : Value}
    {f10 : Addr} {od10 an10 : Option Addr} {sl10 : Array (Option Value)} {oc10 dc10 pm10 cd10 ct10 : Value} {kV10 : Value}
    {f11 : Addr} {od11 an11 : Option Addr} {sl11 : Array (Option Value)} {oc11 dc11 pm11 cd11 ct11 : Value} {kV11 : Value}
    {f12 : Addr} {od12 an12 : Option Addr} {sl12 : Array (Option Value)} {oc12 dc12 pm12 cd12 ct12 : Value} {kV12 : Value}
    {f13 : Addr} {od13 an13 : Option Addr} {sl13 : Array (Option Value)} {oc13 dc13 pm13 cd13 ct13 : Value} {kV13 : Value}
    {f14 : Addr} {od14 an14 : Option Addr} {sl14 : Array (Option Value)} {oc14 dc14 pm14 cd14 ct14 : Value} {kV14 : Value}
    {f15 : Addr} {od15 an15 : Option Addr} {sl15 : Array (Option Value)} {oc15 dc15 pm15 cd15 ct15 : Value} {kV15 : Value}
    {f16 : Addr} {od16 an16 : Option Addr} {sl16 : Array (Option Value)} {oc16 dc16 pm16 cd16 ct16 : Value} {kV16 : Value}
    {f17 : Addr} {od17 an17 : Option Addr} {sl17 : Array (Option Value)} {oc17 dc17 pm17 cd17 ct17 : Value} {kV17 : Value}
    {f18 : Addr} {od18 an18 : Option Addr} {sl18 : Array (Option Value)} {oc18 dc18 pm18 cd18 ct18 : Value} {kV18 : Value}
    {f19 : Addr} {od19 an19 : Option Addr} {sl19 : Array (Option Value)} {oc19 dc19 pm19 cd19 ct19 : Value} {kV19 : Value}
    {f20 : Addr} {od20 an20 : Option Addr} {sl20 : Array (Option Value)} {oc20 dc20 pm20 cd20 ct20 : Value} {kV20 : Value}
    {f21 : Addr} {od21 an21 : Option Addr} {sl21 : Array (Option Value)} {oc21 dc21 pm21 cd21 ct21 : Value} {kV21 : Value}
    {f22 : Addr} {od22 an22 : Option Addr} {sl22 : Array (Option Value)} {oc22 dc22 pm22 cd22 ct22 : Value} {kV22 : Value}
    {f23 : Addr} {od23 an23 : Option Addr} {sl23 : Array (Option Value)} {oc23 dc23 pm23 cd23 ct23 : Value} {kV23 : Value}
    {f24 : Addr} {od24 an24 : Option Addr} {sl24 : Array (Option Value)} {oc24 dc24 pm24 cd24 ct24 kV24 : Value}
    {f25 : Addr} {od25 an25 : Option Addr} {sl25 : Array (Option Value)} {oc25 dc25 pm25 cd25 ct25 kV25 : Value}
    {f26 : Addr} {od26 an26 : Option Addr} {sl26 : Array (Option Value)} {oc26 dc26 pm26 cd26 ct26 kV26 : Value}
    {f27 : Addr} {od27 an27 : Option Addr} {sl27 : Array (Option Value)} {oc27 dc27 pm27 cd27 ct27 kV27 : Value}
    {f28 : Addr} {od28 an28 : Option Addr} {sl28 : Array (Option Value)} {oc28 dc28 pm28 cd28 ct28 kV28 : Value}
    {f29 : Addr} {od29 an29 : Option Addr} {sl29 : Array (Option Value)} {oc29 dc29 pm29 cd29 ct29 kV29 : Value}
    {f30 : Addr} {od30 an30 : Option Addr} {sl30 : Array (Option Value)} {oc30 dc30 pm30 cd30 ct30 kV30 : Value}
    {f31 : Addr} {od31 an31 : Option Addr} {sl31 : Array (Option Value)} {oc31 dc31 pm31 cd31 ct31 : Value} {kV31 : Value}
    {f32 : Addr} {od32 an32 : Option Addr} {sl32 : Array (Option Value)} {oc32 dc32 pm32 cd32 ct32 : Value} {kV32 : Value}
    {f33 : Addr} {od33 an33 : Option Addr} {sl33 : Array (Option Value)} {oc33 dc33 pm33 cd33 ct33 : Value} {kV33 : Value}
    {f34 : Addr} {od34 an34 : Option Addr} {sl34 : Array (Option Value)} {oc34 dc34 pm34 cd34 ct34 : Value} {kV34 : Value}
    {f35 : Addr} {od35 an35 : Option Addr} {sl35 : Array (Option Value)} {oc35 dc35 pm35 cd35 ct35 kV35 : Value}
    {f36 : Addr} {od36 an36 : Option Addr} {sl36 : Array (Option Value)} {oc36 dc36 pm36 cd36 ct36 kV36 : Value}
    {f37 : Addr} {od37 an37 : Option Addr} {sl37 : Array (Option Value)} {oc37 dc37 pm37 cd37 ct37 : Value} {kV37 : Value}
    {f38 : Addr} {od38 an38 : Option Addr} {sl38 : Array (Option Value)} {oc38 dc38 pm38 cd38 ct38 : Value} {kV38 : Value}
    {f39 : Addr} {od39 an39 : Option Addr} {sl39 : Array (Option Value)} {oc39 dc39 pm39 cd39 ct39 : Value} {kV39 : Value}
    {f40 : Addr} {od40 an40 : Option Addr} {sl40 : Array (Option Value)} {oc40 dc40 pm40 cd40 ct40 kV40 : Value}
    {f41 : Addr} {od41 an41 : Option Addr} {sl41 : Array (Option Value)} {oc41 dc41 pm41 cd41 ct41 : Value} {kV41 : Value}
    {f42 : Addr} {od42 an42 : Option Addr} {sl42 : Array (Option Value)} {oc42 dc42 pm42 cd42 ct42 : Value} {kV42 : Value}
    {f43 : Addr} {od43 an43 : Option Addr} {sl43 : Array (Option Value)} {oc43 dc43 pm43 cd43 ct43 : Value} {kV43 : Value}
    {f44 : Addr} {od44 an44 : Option Addr} {sl44 : Array (Option Value)} {oc44 dc44 pm44 cd44 ct44 : Value} {kV44 : Value}
    {f45 : Addr} {od45 an45 : Option Addr} {sl45 : Array (Option Value)} {oc45 dc45 pm45 cd45 ct45 : Value} {kV45 : Value}
    {f46 : Addr} {od46 an46 : Option Addr} {sl46 : Array (Option Value)} {oc46 dc46 pm46 cd46 ct46 : Value} {kV46 : Value}
    {f47 : Addr} {od47 an47 : Option Addr} {sl47 : Array (Option Value)} {oc47 dc47 pm47 cd47 ct47 : Value} {kV47 : Value}
    {f48 : Addr} {od48 an48 : Option Addr} {sl48 : Array (Option Value)} {oc48 dc48 pm48 cd48 ct48 : Value} {kV48 : Value}
    {f49 : Addr} {od49 an49 : Option Addr} {sl49 : Array (Option Value)} {oc49 dc49 pm49 cd49 ct49 : Value} {kV49 : Value}
    {f50 : Addr} {od50 an50 : Option Addr} {sl50 : Array (Option Value)} {oc50 dc50 pm50 cd50 ct50 : Value} {kV50 : Value}
    {f51 : Addr} {od51 an51 : Option Addr} {sl51 : Array (Option Value)} {oc51 dc51 pm51 cd51 ct51 : Value} {kV51 : Value}
    {f52 : Addr} {od52 an52 : Option Addr} {sl52 : Array (Option Value)} {oc52 dc52 pm52 cd52 ct52 : Value} {kV52 : Value}
    {f53 : Addr} {od53 an53 : Option Addr} {sl53 : Array (Option Value)} {oc53 dc53 pm53 cd53 ct53 : Value} {kV53 : Value}
    {X_NoPlay : Addr}
    {X_NoStand : Addr}
    {X_KeysError : Addr}
    {t_ALPHABET : Tok}
    {t_FEW_ROUNDS : Tok}
    {t_HEAVIEST : Tok}
    {t_LONGEST_WORD : Tok}
    {t_MOST_LETTERS : Tok}
    {t_MOST_PARTS : Tok}
    {t_MOST_PIECES : Tok}
    {t_MOST_PRESSINGS : Tok}
    {d_NUMBERS : Addr} {es_NUMBERS : Array DictEntry} {n_NUMBERS : Nat}
    {d_SIDES : Addr} {es_SIDES : Array DictEntry} {n_SIDES : Nat}
    (g_Trip : PySem.W.nsIn K mainGlobals "Trip" = some (some (.ref C_Trip))) (pg_Trip : PySem.W.plainGet K C_Trip Str.empty = true) (hd_Trip : PySem.W.hasDictIn K C_Trip = true) (po_Trip : PySem.W.plainOver K C_Trip = true) (sa_Trip : PySem.W.findIn K (.ref C_Trip) "__setattr__" = some (some (.builtin "object.__setattr__"))) (mk_Trip : PySem.W.makesIn K C_Trip = true) (kc_Trip : PySem.W.keepIn K (.ref C_Trip) = true)
    (n_Trip_hand : PySem.W.findIn K (.ref C_Trip) "hand" = some none)
    (n_Trip_far : PySem.W.findIn K (.ref C_Trip) "far" = some none)
    (n_Trip_end : PySem.W.findIn K (.ref C_Trip) "end" = some none)
    (n_Trip_gone : PySem.W.findIn K (.ref C_Trip) "gone" = some none)
    (n_Trip_here : PySem.W.findIn K (.ref C_Trip) "here" = some none)
    (n_Trip_legs : PySem.W.findIn K (.ref C_Trip) "legs" = some none)
    (n_Trip_moves : PySem.W.findIn K (.ref C_Trip) "moves" = some none)
    (n_Trip_steps : PySem.W.findIn K (.ref C_Trip) "steps" = some none)
    (n_Trip_latest : PySem.W.findIn K (.ref C_Trip) "latest" = some none)
    (n_Trip_dips : PySem.W.findIn K (.ref C_Trip) "dips" = some none)
    (g_Road : PySem.W.nsIn K mainGlobals "Road" = some (some (.ref C_Road))) (pg_Road : PySem.W.plainGet K C_Road Str.empty = true) (hd_Road : PySem.W.hasDictIn K C_Road = true) (po_Road : PySem.W.plainOver K C_Road = true) (sa_Road : PySem.W.findIn K (.ref C_Road) "__setattr__" = some (some (.builtin "object.__setattr__"))) (mk_Road : PySem.W.makesIn K C_Road = true) (kc_Road : PySem.W.keepIn K (.ref C_Road) = true)
    (n_Road_behind : PySem.W.findIn K (.ref C_Road) "behind" = some none)
    (n_Road_far : PySem.W.findIn K (.ref C_Road) "far" = some none)
    (n_Road_legs : PySem.W.findIn K (.ref C_Road) "legs" = some none)
    (n_Road_row : PySem.W.findIn K (.ref C_Road) "row" = some none)
    (n_Road_tables : PySem.W.findIn K (.ref C_Road) "tables" = some none)
    (g_Journey : PySem.W.nsIn K mainGlobals "Journey" = some (some (.ref C_Journey))) (pg_Journey : PySem.W.plainGet K C_Journey Str.empty = true) (hd_Journey : PySem.W.hasDictIn K C_Journey = true) (po_Journey : PySem.W.plainOver K C_Journey = true) (sa_Journey : PySem.W.findIn K (.ref C_Journey) "__setattr__" = some (some (.builtin "object.__setattr__"))) (mk_Journey : PySem.W.makesIn K C_Journey = true) (kc_Journey : PySem.W.keepIn K (.ref C_Journey) = true)
    (n_Journey_parts : PySem.W.findIn K (.ref C_Journey) "parts" = some none)
    (n_Journey_ahead : PySem.W.findIn K (.ref C_Journey) "ahead" = some none)
    (n_Journey_there : PySem.W.findIn K (.ref C_Journey) "there" = some none)
    (n_Journey_roads : PySem.W.findIn K (.ref C_Journey) "roads" = some none)
    (n_Journey_size : PySem.W.findIn K (.ref C_Journey) "size" = some none)
    (g_Scene : PySem.W.nsIn K mainGlobals "Scene" = some (some (.ref C_Scene))) (pg_Scene : PySem.W.plainGet K C_Scene Str.empty = true) (hd_Scene : PySem.W.hasDictIn K C_Scene = true) (po_Scene : PySem.W.plainOver K C_Scene = true) (sa_Scene : PySem.W.findIn K (.ref C_Scene) "__setattr__" = some (some (.builtin "object.__setattr__"))) (mk_Scene : PySem.W.makesIn K C_Scene = true) (kc_Scene : PySem.W.keepIn K (.ref C_Scene) = true)
    (n_Scene_spans : PySem.W.findIn K (.ref C_Scene) "spans" = some none)
    (n_Scene_held : PySem.W.findIn K (.ref C_Scene) "held" = some none)
    (n_Scene_journey : PySem.W.findIn K (.ref C_Scene) "journey" = some none)
    (n_Scene_there : PySem.W.findIn K (.ref C_Scene) "there" = some none)
    (n_Scene_size : PySem.W.findIn K (.ref C_Scene) "size" = some none)
    (a0 : PySem.W.nsIn K mainGlobals "is_row" = some (some (.ref f0))) (l0 : K.lookup f0 = some ⟨oc0, od0, .func (PySem.W.fnOf "is_row" "is_row" (defArgs s_is_row) (defBody s_is_row) (defScope s_is_row) .none kV0 dc0 pm0 an0 cd0 ct0), sl0⟩) (c0 : PySem.W.codeIn K cd0 "is_row" = true) (k0 : PySem.W.keepIn K (.ref f0) = true)
    (a1 : PySem.W.nsIn K mainGlobals "is_whole" = some (some (.ref f1))) (l1 : K.lookup f1 = some ⟨oc1, od1, .func (PySem.W.fnOf "is_whole" "is_whole" (defArgs s_is_whole) (defBody s_is_whole) (defScope s_is_whole) .none kV1 dc1 pm1 an1 cd1 ct1), sl1⟩) (c1 : PySem.W.codeIn K cd1 "is_whole" = true) (k1 : PySem.W.keepIn K (.ref f1) = true)
    (a2 : PySem.W.nsIn K mainGlobals "is_within" = some (some (.ref f2))) (l2 : K.lookup f2 = some ⟨oc2, od2, .func (PySem.W.fnOf "is_within" "is_within" (defArgs s_is_within) (defBody s_is_within) (defScope s_is_within) .none kV2 dc2 pm2 an2 cd2 ct2), sl2⟩) (c2 : PySem.W.codeIn K cd2 "is_within" = true) (k2 : PySem.W.keepIn K (.ref f2) = true)
    (a3 : PySem.W.nsIn K mainGlobals "is_plain" = some (some (.ref f3))) (l3 : K.lookup f3 = some ⟨oc3, od3, .func (PySem.W.fnOf "is_plain" "is_plain" (defArgs s_is_plain) (defBody s_is_plain) (defScope s_is_plain) .none kV3 dc3 pm3 an3 cd3 ct3), sl3⟩) (c3 : PySem.W.codeIn K cd3 "is_plain" = true) (k3 : PySem.W.keepIn K (.ref f3) = true)
    (a4 : PySem.W.nsIn K mainGlobals "is_clip" = some (some (.ref f4))) (l4 : K.lookup f4 = some ⟨oc4, od4, .func (PySem.W.fnOf "is_clip" "is_clip" (defArgs s_is_clip) (defBody s_is_clip) (defScope s_is_clip) .none kV4 dc4 pm4 an4 cd4 ct4), sl4⟩) (c4 : PySem.W.codeIn K cd4 "is_clip" = true) (k4 : PySem.W.keepIn K (.ref f4) = true)
    (a5 : PySem.W.nsIn K mainGlobals "is_word" = some (some (.ref f5))) (l5 : K.lookup f5 = some ⟨oc5, od5, .func (PySem.W.fnOf "is_word" "is_word" (defArgs s_is_word) (defBody s_is_word) (defScope s_is_word) .none kV5 dc5 pm5 an5 cd5 ct5), sl5⟩) (c5 : PySem.W.codeIn K cd5 "is_word" = true) (k5 : PySem.W.keepIn K (.ref f5) = true)
    (a6 : PySem.W.nsIn K mainGlobals "is_piece" = some (some (.ref f6))) (l6 : K.lookup f6 = some ⟨oc6, od6, .func (PySem.W.fnOf "is_piece" "is_piece" (defArgs s_is_piece) (defBody s_is_piece) (defScope s_is_piece) .none kV6 dc6 pm6 an6 cd6 ct6), sl6⟩) (c6 : PySem.W.codeIn K cd6 "is_piece" = true) (k6 : PySem.W.keepIn K (.ref f6) = true)
    (a7 : PySem.W.nsIn K mainGlobals "is_text" = some (some (.ref f7))) (l7 : K.lookup f7 = some ⟨oc7, od7, .func (PySem.W.fnOf "is_text" "is_text" (defArgs s_is_text) (defBody s_is_text) (defScope s_is_text) .none kV7 dc7 pm7 an7 cd7 ct7), sl7⟩) (c7 : PySem.W.codeIn K cd7 "is_text" = true) (k7 : PySem.W.keepIn K (.ref f7) = true)
    (a8 : PySem.W.nsIn K mainGlobals "spans_of" = some (some (.ref f8))) (l8 : K.lookup f8 = some ⟨oc8, od8, .func (PySem.W.fnOf "spans_of" "spans_of" (defArgs s_spans_of) (defBody s_spans_of) (defScope s_spans_of) .none kV8 dc8 pm8 an8 cd8 ct8), sl8⟩) (c8 : PySem.W.codeIn K cd8 "spans_of" = true) (k8 : PySem.W.keepIn K (.ref f8) = true)
    (a9 : PySem.W.nsIn K mainGlobals "end_of" = some (some (.ref f9))) (l9 : K.lookup f9 = some ⟨oc9, od9, .func (PySem.W.fnOf "end_of" "end_of" (defArgs s_end_of) (defBody s_end_of) (defScope s_end_of) .none kV9 dc9 pm9 an9 cd9 ct9), sl9⟩) (c9 : PySem.W.codeIn K cd9 "end_of" = true) (k9 : PySem.W.keepIn K (.ref f9) = true)
    (a10 : PySem.W.nsIn K mainGlobals "is_key" = some (some (.ref f10))) (l10 : K.lookup f10 = some ⟨oc10, od10, .func (PySem.W.fnOf "is_key" "is_key" (defArgs s_is_key) (defBody s_is_key) (defScope s_is_key) .none kV10 dc10 pm10 an10 cd10 ct10), sl10⟩) (c10 : PySem.W.codeIn K cd10 "is_key" = true) (k10 : PySem.W.keepIn K (.ref f10) = true)
    (a11 : PySem.W.nsIn K mainGlobals "key_weight" = some (some (.ref f11))) (l11 : K.lookup f11 = some ⟨oc11, od11, .func (PySem.W.fnOf "key_weight" "key_weight" (defArgs s_key_weight) (defBody s_key_weight) (defScope s_key_weight) .none kV11 dc11 pm11 an11 cd11 ct11), sl11⟩) (c11 : PySem.W.codeIn K cd11 "key_weight" = true) (k11 : PySem.W.keepIn K (.ref f11) = true)
    (a12 : PySem.W.nsIn K mainGlobals "weigh" = some (some (.ref f12))) (l12 : K.lookup f12 = some ⟨oc12, od12, .func (PySem.W.fnOf "weigh" "weigh" (defArgs s_weigh) (defBody s_weigh) (defScope s_weigh) .none kV12 dc12 pm12 an12 cd12 ct12), sl12⟩) (c12 : PySem.W.codeIn K cd12 "weigh" = true) (k12 : PySem.W.keepIn K (.ref f12) = true)
    (a13 : PySem.W.nsIn K mainGlobals "is_hand" = some (some (.ref f13))) (l13 : K.lookup f13 = some ⟨oc13, od13, .func (PySem.W.fnOf "is_hand" "is_hand" (defArgs s_is_hand) (defBody s_is_hand) (defScope s_is_hand) .none kV13 dc13 pm13 an13 cd13 ct13), sl13⟩) (c13 : PySem.W.codeIn K cd13 "is_hand" = true) (k13 : PySem.W.keepIn K (.ref f13) = true)
    (a14 : PySem.W.nsIn K mainGlobals "go" = some (some (.ref f14))) (l14 : K.lookup f14 = some ⟨oc14, od14, .func (PySem.W.fnOf "go" "go" (defArgs s_go) (defBody s_go) (defScope s_go) .none kV14 dc14 pm14 an14 cd14 ct14), sl14⟩) (c14 : PySem.W.codeIn K cd14 "go" = true) (k14 : PySem.W.keepIn K (.ref f14) = true)
    (a15 : PySem.W.nsIn K mainGlobals "needed" = some (some (.ref f15))) (l15 : K.lookup f15 = some ⟨oc15, od15, .func (PySem.W.fnOf "needed" "needed" (defArgs s_needed) (defBody s_needed) (defScope s_needed) .none kV15 dc15 pm15 an15 cd15 ct15), sl15⟩) (c15 : PySem.W.codeIn K cd15 "needed" = true) (k15 : PySem.W.keepIn K (.ref f15) = true)
    (a16 : PySem.W.nsIn K mainGlobals "reach" = some (some (.ref f16))) (l16 : K.lookup f16 = some ⟨oc16, od16, .func (PySem.W.fnOf "reach" "reach" (defArgs s_reach) (defBody s_reach) (defScope s_reach) .none kV16 dc16 pm16 an16 cd16 ct16), sl16⟩) (c16 : PySem.W.codeIn K cd16 "reach" = true) (k16 : PySem.W.keepIn K (.ref f16) = true)
    (a17 : PySem.W.nsIn K mainGlobals "sourced" = some (some (.ref f17))) (l17 : K.lookup f17 = some ⟨oc17, od17, .func (PySem.W.fnOf "sourced" "sourced" (defArgs s_sourced) (defBody s_sourced) (defScope s_sourced) .none kV17 dc17 pm17 an17 cd17 ct17), sl17⟩) (c17 : PySem.W.codeIn K cd17 "sourced" = true) (k17 : PySem.W.keepIn K (.ref f17) = true)
    (a18 : PySem.W.nsIn K mainGlobals "short" = some (some (.ref f18))) (l18 : K.lookup f18 = some ⟨oc18, od18, .func (PySem.W.fnOf "short" "short" (defArgs s_short) (defBody s_short) (defScope s_short) .none kV18 dc18 pm18 an18 cd18 ct18), sl18⟩) (c18 : PySem.W.codeIn K cd18 "short" = true) (k18 : PySem.W.keepIn K (.ref f18) = true)
    (a19 : PySem.W.nsIn K mainGlobals "more" = some (some (.ref f19))) (l19 : K.lookup f19 = some ⟨oc19, od19, .func (PySem.W.fnOf "more" "more" (defArgs s_more) (defBody s_more) (defScope s_more) .none kV19 dc19 pm19 an19 cd19 ct19), sl19⟩) (c19 : PySem.W.codeIn K cd19 "more" = true) (k19 : PySem.W.keepIn K (.ref f19) = true)
    (a20 : PySem.W.nsIn K mainGlobals "gained" = some (some (.ref f20))) (l20 : K.lookup f20 = some ⟨oc20, od20, .func (PySem.W.fnOf "gained" "gained" (defArgs s_gained) (defBody s_gained) (defScope s_gained) .none kV20 dc20 pm20 an20 cd20 ct20), sl20⟩) (c20 : PySem.W.codeIn K cd20 "gained" = true) (k20 : PySem.W.keepIn K (.ref f20) = true)
    (a21 : PySem.W.nsIn K mainGlobals "soonest" = some (some (.ref f21))) (l21 : K.lookup f21 = some ⟨oc21, od21, .func (PySem.W.fnOf "soonest" "soonest" (defArgs s_soonest) (defBody s_soonest) (defScope s_soonest) .none kV21 dc21 pm21 an21 cd21 ct21), sl21⟩) (c21 : PySem.W.codeIn K cd21 "soonest" = true) (k21 : PySem.W.keepIn K (.ref f21) = true)
    (a22 : PySem.W.nsIn K mainGlobals "pressed" = some (some (.ref f22))) (l22 : K.lookup f22 = some ⟨oc22, od22, .func (PySem.W.fnOf "pressed" "pressed" (defArgs s_pressed) (defBody s_pressed) (defScope s_pressed) .none kV22 dc22 pm22 an22 cd22 ct22), sl22⟩) (c22 : PySem.W.codeIn K cd22 "pressed" = true) (k22 : PySem.W.keepIn K (.ref f22) = true)
    (a23 : PySem.W.nsIn K mainGlobals "lengths_in" = some (some (.ref f23))) (l23 : K.lookup f23 = some ⟨oc23, od23, .func (PySem.W.fnOf "lengths_in" "lengths_in" (defArgs s_lengths_in) (defBody s_lengths_in) (defScope s_lengths_in) .none kV23 dc23 pm23 an23 cd23 ct23), sl23⟩) (c23 : PySem.W.codeIn K cd23 "lengths_in" = true) (k23 : PySem.W.keepIn K (.ref f23) = true)
    (a24 : PySem.W.findIn K (.ref C_Trip) "__init__" = some (some (.ref f24))) (i24 : PySem.W.isFn K (.ref f24) = true) (l24 : K.lookup f24 = some ⟨oc24, od24, .func (PySem.W.fnOf "__init__" "Trip.__init__" (defArgs s_Trip___init__) (defBody s_Trip___init__) (defScope s_Trip___init__) .none kV24 dc24 pm24 an24 cd24 ct24), sl24⟩) (c24 : PySem.W.codeIn K cd24 "Trip.__init__" = true) (k24 : PySem.W.keepIn K (.ref f24) = true)
    (a25 : PySem.W.findIn K (.ref C_Trip) "run" = some (some (.ref f25))) (i25 : PySem.W.isFn K (.ref f25) = true) (l25 : K.lookup f25 = some ⟨oc25, od25, .func (PySem.W.fnOf "run" "Trip.run" (defArgs s_Trip_run) (defBody s_Trip_run) (defScope s_Trip_run) .none kV25 dc25 pm25 an25 cd25 ct25), sl25⟩) (c25 : PySem.W.codeIn K cd25 "Trip.run" = true) (k25 : PySem.W.keepIn K (.ref f25) = true)
    (a26 : PySem.W.findIn K (.ref C_Trip) "step" = some (some (.ref f26))) (i26 : PySem.W.isFn K (.ref f26) = true) (l26 : K.lookup f26 = some ⟨oc26, od26, .func (PySem.W.fnOf "step" "Trip.step" (defArgs s_Trip_step) (defBody s_Trip_step) (defScope s_Trip_step) .none kV26 dc26 pm26 an26 cd26 ct26), sl26⟩) (c26 : PySem.W.codeIn K cd26 "Trip.step" = true) (k26 : PySem.W.keepIn K (.ref f26) = true)
    (a27 : PySem.W.findIn K (.ref C_Trip) "close" = some (some (.ref f27))) (i27 : PySem.W.isFn K (.ref f27) = true) (l27 : K.lookup f27 = some ⟨oc27, od27, .func (PySem.W.fnOf "close" "Trip.close" (defArgs s_Trip_close) (defBody s_Trip_close) (defScope s_Trip_close) .none kV27 dc27 pm27 an27 cd27 ct27), sl27⟩) (c27 : PySem.W.codeIn K cd27 "Trip.close" = true) (k27 : PySem.W.keepIn K (.ref f27) = true)
    (a28 : PySem.W.findIn K (.ref C_Trip) "jump" = some (some (.ref f28))) (i28 : PySem.W.isFn K (.ref f28) = true) (l28 : K.lookup f28 = some ⟨oc28, od28, .func (PySem.W.fnOf "jump" "Trip.jump" (defArgs s_Trip_jump) (defBody s_Trip_jump) (defScope s_Trip_jump) .none kV28 dc28 pm28 an28 cd28 ct28), sl28⟩) (c28 : PySem.W.codeIn K cd28 "Trip.jump" = true) (k28 : PySem.W.keepIn K (.ref f28) = true)
    (a29 : PySem.W.findIn K (.ref C_Trip) "lasting" = some (some (.ref f29))) (i29 : PySem.W.isFn K (.ref f29) = true) (l29 : K.lookup f29 = some ⟨oc29, od29, .func (PySem.W.fnOf "lasting" "Trip.lasting" (defArgs s_Trip_lasting) (defBody s_Trip_lasting) (defScope s_Trip_lasting) .none kV29 dc29 pm29 an29 cd29 ct29), sl29⟩) (c29 : PySem.W.codeIn K cd29 "Trip.lasting" = true) (k29 : PySem.W.keepIn K (.ref f29) = true)
    (a30 : PySem.W.findIn K (.ref C_Trip) "leap" = some (some (.ref f30))) (i30 : PySem.W.isFn K (.ref f30) = true) (l30 : K.lookup f30 = some ⟨oc30, od30, .func (PySem.W.fnOf "leap" "Trip.leap" (defArgs s_Trip_leap) (defBody s_Trip_leap) (defScope s_Trip_leap) .none kV30 dc30 pm30 an30 cd30 ct30), sl30⟩) (c30 : PySem.W.codeIn K cd30 "Trip.leap" = true) (k30 : PySem.W.keepIn K (.ref f30) = true)
    (a31 : PySem.W.nsIn K mainGlobals "trip_of" = some (some (.ref f31))) (l31 : K.lookup f31 = some ⟨oc31, od31, .func (PySem.W.fnOf "trip_of" "trip_of" (defArgs s_trip_of) (defBody s_trip_of) (defScope s_trip_of) .none kV31 dc31 pm31 an31 cd31 ct31), sl31⟩) (c31 : PySem.W.codeIn K cd31 "trip_of" = true) (k31 : PySem.W.keepIn K (.ref f31) = true)
    (a32 : PySem.W.nsIn K mainGlobals "is_part" = some (some (.ref f32))) (l32 : K.lookup f32 = some ⟨oc32, od32, .func (PySem.W.fnOf "is_part" "is_part" (defArgs s_is_part) (defBody s_is_part) (defScope s_is_part) .none kV32 dc32 pm32 an32 cd32 ct32), sl32⟩) (c32 : PySem.W.codeIn K cd32 "is_part" = true) (k32 : PySem.W.keepIn K (.ref f32) = true)
    (a33 : PySem.W.nsIn K mainGlobals "is_play" = some (some (.ref f33))) (l33 : K.lookup f33 = some ⟨oc33, od33, .func (PySem.W.fnOf "is_play" "is_play" (defArgs s_is_play) (defBody s_is_play) (defScope s_is_play) .none kV33 dc33 pm33 an33 cd33 ct33), sl33⟩) (c33 : PySem.W.codeIn K cd33 "is_play" = true) (k33 : PySem.W.keepIn K (.ref f33) = true)
    (a34 : PySem.W.nsIn K mainGlobals "check_play" = some (some (.ref f34))) (l34 : K.lookup f34 = some ⟨oc34, od34, .func (PySem.W.fnOf "check_play" "check_play" (defArgs s_check_play) (defBody s_check_play) (defScope s_check_play) .none kV34 dc34 pm34 an34 cd34 ct34), sl34⟩) (c34 : PySem.W.codeIn K cd34 "check_play" = true) (k34 : PySem.W.keepIn K (.ref f34) = true)
    (a35 : PySem.W.findIn K (.ref C_Road) "__init__" = some (some (.ref f35))) (i35 : PySem.W.isFn K (.ref f35) = true) (l35 : K.lookup f35 = some ⟨oc35, od35, .func (PySem.W.fnOf "__init__" "Road.__init__" (defArgs s_Road___init__) (defBody s_Road___init__) (defScope s_Road___init__) .none kV35 dc35 pm35 an35 cd35 ct35), sl35⟩) (c35 : PySem.W.codeIn K cd35 "Road.__init__" = true) (k35 : PySem.W.keepIn K (.ref f35) = true)
    (a36 : PySem.W.findIn K (.ref C_Journey) "__init__" = some (some (.ref f36))) (i36 : PySem.W.isFn K (.ref f36) = true) (l36 : K.lookup f36 = some ⟨oc36, od36, .func (PySem.W.fnOf "__init__" "Journey.__init__" (defArgs s_Journey___init__) (defBody s_Journey___init__) (defScope s_Journey___init__) .none kV36 dc36 pm36 an36 cd36 ct36), sl36⟩) (c36 : PySem.W.codeIn K cd36 "Journey.__init__" = true) (k36 : PySem.W.keepIn K (.ref f36) = true)
    (a37 : PySem.W.nsIn K mainGlobals "is_stand" = some (some (.ref f37))) (l37 : K.lookup f37 = some ⟨oc37, od37, .func (PySem.W.fnOf "is_stand" "is_stand" (defArgs s_is_stand) (defBody s_is_stand) (defScope s_is_stand) .none kV37 dc37 pm37 an37 cd37 ct37), sl37⟩) (c37 : PySem.W.codeIn K cd37 "is_stand" = true) (k37 : PySem.W.keepIn K (.ref f37) = true)
    (a38 : PySem.W.nsIn K mainGlobals "check_stand" = some (some (.ref f38))) (l38 : K.lookup f38 = some ⟨oc38, od38, .func (PySem.W.fnOf "check_stand" "check_stand" (defArgs s_check_stand) (defBody s_check_stand) (defScope s_check_stand) .none kV38 dc38 pm38 an38 cd38 ct38), sl38⟩) (c38 : PySem.W.codeIn K cd38 "check_stand" = true) (k38 : PySem.W.keepIn K (.ref f38) = true)
    (a39 : PySem.W.nsIn K mainGlobals "lengths_of" = some (some (.ref f39))) (l39 : K.lookup f39 = some ⟨oc39, od39, .func (PySem.W.fnOf "lengths_of" "lengths_of" (defArgs s_lengths_of) (defBody s_lengths_of) (defScope s_lengths_of) .none kV39 dc39 pm39 an39 cd39 ct39), sl39⟩) (c39 : PySem.W.codeIn K cd39 "lengths_of" = true) (k39 : PySem.W.keepIn K (.ref f39) = true)
    (a40 : PySem.W.findIn K (.ref C_Scene) "__init__" = some (some (.ref f40))) (i40 : PySem.W.isFn K (.ref f40) = true) (l40 : K.lookup f40 = some ⟨oc40, od40, .func (PySem.W.fnOf "__init__" "Scene.__init__" (defArgs s_Scene___init__) (defBody s_Scene___init__) (defScope s_Scene___init__) .none kV40 dc40 pm40 an40 cd40 ct40), sl40⟩) (c40 : PySem.W.codeIn K cd40 "Scene.__init__" = true) (k40 : PySem.W.keepIn K (.ref f40) = true)
    (a41 : PySem.W.nsIn K mainGlobals "scene_of" = some (some (.ref f41))) (l41 : K.lookup f41 = some ⟨oc41, od41, .func (PySem.W.fnOf "scene_of" "scene_of" (defArgs s_scene_of) (defBody s_scene_of) (defScope s_scene_of) .none kV41 dc41 pm41 an41 cd41 ct41), sl41⟩) (c41 : PySem.W.codeIn K cd41 "scene_of" = true) (k41 : PySem.W.keepIn K (.ref f41) = true)
    (a42 : PySem.W.nsIn K mainGlobals "size_behind" = some (some (.ref f42))) (l42 : K.lookup f42 = some ⟨oc42, od42, .func (PySem.W.fnOf "size_behind" "size_behind" (defArgs s_size_behind) (defBody s_size_behind) (defScope s_size_behind) .none kV42 dc42 pm42 an42 cd42 ct42), sl42⟩) (c42 : PySem.W.codeIn K cd42 "size_behind" = true) (k42 : PySem.W.keepIn K (.ref f42) = true)
    (a43 : PySem.W.nsIn K mainGlobals "_law_spring" = some (some (.ref f43))) (l43 : K.lookup f43 = some ⟨oc43, od43, .func (PySem.W.fnOf "_law_spring" "_law_spring" (defArgs s__law_spring) (defBody s__law_spring) (defScope s__law_spring) .none kV43 dc43 pm43 an43 cd43 ct43), sl43⟩) (c43 : PySem.W.codeIn K cd43 "_law_spring" = true) (k43 : PySem.W.keepIn K (.ref f43) = true)
    (a44 : PySem.W.nsIn K mainGlobals "_law_draw" = some (some (.ref f44))) (l44 : K.lookup f44 = some ⟨oc44, od44, .func (PySem.W.fnOf "_law_draw" "_law_draw" (defArgs s__law_draw) (defBody s__law_draw) (defScope s__law_draw) .none kV44 dc44 pm44 an44 cd44 ct44), sl44⟩) (c44 : PySem.W.codeIn K cd44 "_law_draw" = true) (k44 : PySem.W.keepIn K (.ref f44) = true)
    (a45 : PySem.W.nsIn K mainGlobals "_law_same" = some (some (.ref f45))) (l45 : K.lookup f45 = some ⟨oc45, od45, .func (PySem.W.fnOf "_law_same" "_law_same" (defArgs s__law_same) (defBody s__law_same) (defScope s__law_same) .none kV45 dc45 pm45 an45 cd45 ct45), sl45⟩) (c45 : PySem.W.codeIn K cd45 "_law_same" = true) (k45 : PySem.W.keepIn K (.ref f45) = true)
    (a46 : PySem.W.nsIn K mainGlobals "_law_lists" = some (some (.ref f46))) (l46 : K.lookup f46 = some ⟨oc46, od46, .func (PySem.W.fnOf "_law_lists" "_law_lists" (defArgs s__law_lists) (defBody s__law_lists) (defScope s__law_lists) .none kV46 dc46 pm46 an46 cd46 ct46), sl46⟩) (c46 : PySem.W.codeIn K cd46 "_law_lists" = true) (k46 : PySem.W.keepIn K (.ref f46) = true)
    (a47 : PySem.W.nsIn K mainGlobals "_law_handed" = some (some (.ref f47))) (l47 : K.lookup f47 = some ⟨oc47, od47, .func (PySem.W.fnOf "_law_handed" "_law_handed" (defArgs s__law_handed) (defBody s__law_handed) (defScope s__law_handed) .none kV47 dc47 pm47 an47 cd47 ct47), sl47⟩) (c47 : PySem.W.codeIn K cd47 "_law_handed" = true) (k47 : PySem.W.keepIn K (.ref f47) = true)
    (a48 : PySem.W.nsIn K mainGlobals "_law_word" = some (some (.ref f48))) (l48 : K.lookup f48 = some ⟨oc48, od48, .func (PySem.W.fnOf "_law_word" "_law_word" (defArgs s__law_word) (defBody s__law_word) (defScope s__law_word) .none kV48 dc48 pm48 an48 cd48 ct48), sl48⟩) (c48 : PySem.W.codeIn K cd48 "_law_word" = true) (k48 : PySem.W.keepIn K (.ref f48) = true)
    (a49 : PySem.W.nsIn K mainGlobals "_law_text" = some (some (.ref f49))) (l49 : K.lookup f49 = some ⟨oc49, od49, .func (PySem.W.fnOf "_law_text" "_law_text" (defArgs s__law_text) (defBody s__law_text) (defScope s__law_text) .none kV49 dc49 pm49 an49 cd49 ct49), sl49⟩) (c49 : PySem.W.codeIn K cd49 "_law_text" = true) (k49 : PySem.W.keepIn K (.ref f49) = true)
    (a50 : PySem.W.nsIn K mainGlobals "_law_no_text" = some (some (.ref f50))) (l50 : K.lookup f50 = some ⟨oc50, od50, .func (PySem.W.fnOf "_law_no_text" "_law_no_text" (defArgs s__law_no_text) (defBody s__law_no_text) (defScope s__law_no_text) .none kV50 dc50 pm50 an50 cd50 ct50), sl50⟩) (c50 : PySem.W.codeIn K cd50 "_law_no_text" = true) (k50 : PySem.W.keepIn K (.ref f50) = true)
    (a51 : PySem.W.nsIn K mainGlobals "_law_no_stand" = some (some (.ref f51))) (l51 : K.lookup f51 = some ⟨oc51, od51, .func (PySem.W.fnOf "_law_no_stand" "_law_no_stand" (defArgs s__law_no_stand) (defBody s__law_no_stand) (defScope s__law_no_stand) .none kV51 dc51 pm51 an51 cd51 ct51), sl51⟩) (c51 : PySem.W.codeIn K cd51 "_law_no_stand" = true) (k51 : PySem.W.keepIn K (.ref f51) = true)
    (a52 : PySem.W.nsIn K mainGlobals "_law_refused" = some (some (.ref f52))) (l52 : K.lookup f52 = some ⟨oc52, od52, .func (PySem.W.fnOf "_law_refused" "_law_refused" (defArgs s__law_refused) (defBody s__law_refused) (defScope s__law_refused) .none kV52 dc52 pm52 an52 cd52 ct52), sl52⟩) (c52 : PySem.W.codeIn K cd52 "_law_refused" = true) (k52 : PySem.W.keepIn K (.ref f52) = true)
    (a53 : PySem.W.nsIn K mainGlobals "law" = some (some (.ref f53))) (l53 : K.lookup f53 = some ⟨oc53, od53, .func (PySem.W.fnOf "law" "law" (defArgs s_law) (defBody s_law) (defScope s_law) .none kV53 dc53 pm53 an53 cd53 ct53), sl53⟩) (c53 : PySem.W.codeIn K cd53 "law" = true) (k53 : PySem.W.keepIn K (.ref f53) = true)
    (g_NoPlay : PySem.W.nsIn K mainGlobals "NoPlay" = some (some (.ref X_NoPlay))) (k_NoPlay : PySem.W.keepIn K (.ref X_NoPlay) = true) (h_NoPlay : PySem.W.hasDictIn K X_NoPlay = true) (t_NoPlay : PySem.W.typeIn K (.ref X_NoPlay) = some (.type "type")) (u_NoPlay : PySem.W.subIn K (.ref X_NoPlay) (.type "BaseException") = some true) (f_NoPlay : PySem.W.subIn K (.ref X_NoPlay) (.ref X_NoPlay) = some true)
    (g_NoStand : PySem.W.nsIn K mainGlobals "NoStand" = some (some (.ref X_NoStand))) (k_NoStand : PySem.W.keepIn K (.ref X_NoStand) = true) (h_NoStand : PySem.W.hasDictIn K X_NoStand = true) (t_NoStand : PySem.W.typeIn K (.ref X_NoStand) = some (.type "type")) (u_NoStand : PySem.W.subIn K (.ref X_NoStand) (.type "BaseException") = some true) (f_NoStand : PySem.W.subIn K (.ref X_NoStand) (.ref X_NoStand) = some true)
    (g_KeysError : PySem.W.nsIn K mainGlobals "KeysError" = some (some (.ref X_KeysError))) (k_KeysError : PySem.W.keepIn K (.ref X_KeysError) = true) (h_KeysError : PySem.W.hasDictIn K X_KeysError = true) (t_KeysError : PySem.W.typeIn K (.ref X_KeysError) = some (.type "type")) (u_KeysError : PySem.W.subIn K (.ref X_KeysError) (.type "BaseException") = some true) (f_KeysError : PySem.W.subIn K (.ref X_KeysError) (.ref X_KeysError) = some true)
    (nG : PySem.W.specialIn K (.builtin "object.__class__") "__get__" = some (some (.builtin "getset_descriptor.__get__"))) (nT : PySem.W.takesIn K (.builtin "object.__class__") = some true)
    (q_NoPlay : PySem.W.excIn K X_NoPlay [.type "ValueError", .type "Exception", .type "BaseException", .type "object"] "ValueError.__new__" = true) (o_NoPlay : PySem.W.findIn K (.ref X_NoPlay) "__getattribute__" = some (some (.builtin "BaseException.__getattribute__"))) (p_NoPlay : PySem.W.findIn K (.ref X_NoPlay) "__getattr__" = some none) (j_NoPlay : PySem.W.findIn K (.ref X_NoPlay) "__class__" = some (some (.builtin "object.__class__"))) (m_NoPlay : PySem.W.mroIn K X_NoPlay (.type "object") = some true) (w_NoPlay : PySem.W.subIn K (.ref X_NoPlay) (.type "ValueError") = some true)
    (s_NoPlay_NoStand : PySem.W.subIn K (.ref X_NoPlay) (.ref X_NoStand) = some false)
    (s_NoPlay_KeysError : PySem.W.subIn K (.ref X_NoPlay) (.ref X_KeysError) = some true)
    (q_NoStand : PySem.W.excIn K X_NoStand [.type "ValueError", .type "Exception", .type "BaseException", .type "object"] "ValueError.__new__" = true) (o_NoStand : PySem.W.findIn K (.ref X_NoStand) "__getattribute__" = some (some (.builtin "BaseException.__getattribute__"))) (p_NoStand : PySem.W.findIn K (.ref X_NoStand) "__getattr__" = some none) (j_NoStand : PySem.W.findIn K (.ref X_NoStand) "__class__" = some (some (.builtin "object.__class__"))) (m_NoStand : PySem.W.mroIn K X_NoStand (.type "object") = some true) (w_NoStand : PySem.W.subIn K (.ref X_NoStand) (.type "ValueError") = some true)
    (s_NoStand_NoPlay : PySem.W.subIn K (.ref X_NoStand) (.ref X_NoPlay) = some false)
    (s_NoStand_KeysError : PySem.W.subIn K (.ref X_NoStand) (.ref X_KeysError) = some true)
    (z_abs : PySem.W.nsIn K mainGlobals "abs" = some none)
    (z_all : PySem.W.nsIn K mainGlobals "all" = some none)
    (z_bool : PySem.W.nsIn K mainGlobals "bool" = some none)
    (z_divmod : PySem.W.nsIn K mainGlobals "divmod" = some none)
    (z_enumerate : PySem.W.nsIn K mainGlobals "enumerate" = some none)
    (z_int : PySem.W.nsIn K mainGlobals "int" = some none)
    (z_isinstance : PySem.W.nsIn K mainGlobals "isinstance" = some none)
    (z_len : PySem.W.nsIn K mainGlobals "len" = some none)
    (z_list : PySem.W.nsIn K mainGlobals "list" = some none)
    (z_min : PySem.W.nsIn K mainGlobals "min" = some none)
    (z_range : PySem.W.nsIn K mainGlobals "range" = some none)
    (z_repr : PySem.W.nsIn K mainGlobals "repr" = some none)
    (z_str : PySem.W.nsIn K mainGlobals "str" = some none)
    (z_sum : PySem.W.nsIn K mainGlobals "sum" = some none)
    (z_tuple : PySem.W.nsIn K mainGlobals "tuple" = some none)
    (z_type : PySem.W.nsIn K mainGlobals "type" = some none)
    (v_ALPHABET : PySem.W.nsIn K mainGlobals "ALPHABET" = some (some (.str "abcdefghijklmnopqrstuvwxyz" t_ALPHABET)))
    (v_FEW_ROUNDS : PySem.W.nsIn K mainGlobals "FEW_ROUNDS" = some (some (.int 10 t_FEW_ROUNDS)))
    (v_HEAVIEST : PySem.W.nsIn K mainGlobals "HEAVIEST" = some (some (.int 60 t_HEAVIEST)))
    (v_LONGEST_WORD : PySem.W.nsIn K mainGlobals "LONGEST_WORD" = some (some (.int 60 t_LONGEST_WORD)))
    (v_MOST_LETTERS : PySem.W.nsIn K mainGlobals "MOST_LETTERS" = some (some (.int 1000000000000000000000000000000 t_MOST_LETTERS)))
    (v_MOST_PARTS : PySem.W.nsIn K mainGlobals "MOST_PARTS" = some (some (.int 12 t_MOST_PARTS)))
    (v_MOST_PIECES : PySem.W.nsIn K mainGlobals "MOST_PIECES" = some (some (.int 40 t_MOST_PIECES)))
    (v_MOST_PRESSINGS : PySem.W.nsIn K mainGlobals "MOST_PRESSINGS" = some (some (.int 1000000000000000000000000000000 t_MOST_PRESSINGS)))
    (v_NUMBERS : PySem.W.nsIn K mainGlobals "NUMBERS" = some (some (.ref d_NUMBERS))) (l_NUMBERS : K.lookup d_NUMBERS = some ⟨.type "dict", none, .dict es_NUMBERS n_NUMBERS, #[]⟩) (k_NUMBERS : PySem.W.KeysLit w.params es_NUMBERS.toList) (b_NUMBERS : (d_NUMBERS == sysModules) = false) (e_NUMBERS : es_NUMBERS.toList.map dti = ([("left", 0), ("right", 1), ("clip", 2)] : List (Str × Int)).map some)
    (v_SIDES : PySem.W.nsIn K mainGlobals "SIDES" = some (some (.ref d_SIDES))) (l_SIDES : K.lookup d_SIDES = some ⟨.type "dict", none, .dict es_SIDES n_SIDES, #[]⟩) (k_SIDES : PySem.W.KeysLit w.params es_SIDES.toList) (b_SIDES : (d_SIDES == sysModules) = false) (e_SIDES : es_SIDES.toList.map dtx = ([("left", "left"), ("rub", "left"), ("right", "right"), ("strike", "right"), ("copy", "right"), ("cut", "right")] : List (Str × Str)).map some) :
    ∃ fd : FuncData, (∀ (s : Shared) (v : Value), BindsTo s fd ⟨[v], []⟩ [("script", v)]) ∧ ∀ base : Heap, K.In base → base.Ns mainGlobals mg → Mods base → FnG l.prog w K mg base L2.CX0 16 fa fd ["script"] (spLaw K) := by
  have e := hfa.symm.trans (PySem.W.mg_of X G a53)
  cases e
  have F0 := fun_mk (st := s_is_row) l0 c0 k0
  have F1 := fun_mk (st := s_is_whole) l1 c1 k1
  have F2 := fun_mk (st := s_is_within) l2 c2 k2
  have F3 := fun_mk (st := s_is_plain) l3 c3 k3
  have F4 := fun_mk (st := s_is_clip) l4 c4 k4
  have F5 := fun_mk (st := s_is_word) l5 c5 k5
  have F6 := fun_mk (st := s_is_piece) l6 c6 k6
  have F7 := fun_mk (st := s_is_text) l7 c7 k7
  have F8 := fun_mk (st := s_spans_of) l8 c8 k8
  have F9 := fun_mk (st := s_end_of) l9 c9 k9
  have F10 := fun_mk (st := s_is_key) l10 c10 k10
  have F11 := fun_mk (st := s_key_weight) l11 c11 k11
  have F12 := fun_mk (st := s_weigh) l12 c12 k12
  have F13 := fun_mk (st := s_is_hand) l13 c13 k13
  have F14 := fun_mk (st := s_go) l14 c14 k14
  have F15 := fun_mk (st := s_needed) l15 c15 k15
  have F16 := fun_mk (st := s_reach) l16 c16 k16
  have F17 := fun_mk (st := s_sourced) l17 c17 k17
  have F18 := fun_mk (st := s_short) l18 c18 k18
  have F19 := fun_mk (st := s_more) l19 c19 k19
  have F20 := fun_mk (st := s_gained) l20 c20 k20
  have F21 := fun_mk (st := s_soonest) l21 c21 k21
  have F22 := fun_mk (st := s_pressed) l22 c22 k22
  have F23 := fun_mk (st := s_lengths_in) l23 c23 k23
  have F24 := fun_mk (st := s_Trip___init__) l24 c24 k24
  have F25 := fun_mk (st := s_Trip_run) l25 c25 k25
  have F26 := fun_mk (st := s_Trip_step) l26 c26 k26
  have F27 := fun_mk (st := s_Trip_close) l27 c27 k27
  have F28 := fun_mk (st := s_Trip_jump) l28 c28 k28
  have F29 := fun_mk (st := s_Trip_lasting) l29 c29 k29
  have F30 := fun_mk (st := s_Trip_leap) l30 c30 k30
  have F31 := fun_mk (st := s_trip_of) l31 c31 k31
  have F32 := fun_mk (st := s_is_part) l32 c32 k32
  have F33 := fun_mk (st := s_is_play) l33 c33 k33
  have F34 := fun_mk (st := s_check_play) l34 c34 k34
  have F35 := fun_mk (st := s_Road___init__) l35 c35 k35
  have F36 := fun_mk (st := s_Journey___init__) l36 c36 k36
  have F37 := fun_mk (st := s_is_stand) l37 c37 k37
  have F38 := fun_mk (st := s_check_stand) l38 c38 k38
  have F39 := fun_mk (st := s_lengths_of) l39 c39 k39
  have F40 := fun_mk (st := s_Scene___init__) l40 c40 k40
  have F41 := fun_mk (st := s_scene_of) l41 c41 k41
  have F42 := fun_mk (st := s_size_behind) l42 c42 k42
  have F43 := fun_mk (st := s__law_spring) l43 c43 k43
  have F44 := fun_mk (st := s__law_draw) l44 c44 k44
  have F45 := fun_mk (st := s__law_same) l45 c45 k45
  have F46 := fun_mk (st := s__law_lists) l46 c46 k46
  have F47 := fun_mk (st := s__law_handed) l47 c47 k47
  have F48 := fun_mk (st := s__law_word) l48 c48 k48
  have F49 := fun_mk (st := s__law_text) l49 c49 k49
  have F50 := fun_mk (st := s__law_no_text) l50 c50 k50
  have F51 := fun_mk (st := s__law_no_stand) l51 c51 k51
  have F52 := fun_mk (st := s__law_refused) l52 c52 k52
  have F53 := fun_mk (st := s_law) l53 c53 k53
  let x_NoPlay : ExT K mg "NoPlay" := ⟨X_NoPlay, PySem.W.mg_of X G g_NoPlay, k_NoPlay, h_NoPlay, t_NoPlay, u_NoPlay, f_NoPlay⟩
  let x_NoStand : ExT K mg "NoStand" := ⟨X_NoStand, PySem.W.mg_of X G g_NoStand, k_NoStand, h_NoStand, t_NoStand, u_NoStand, f_NoStand⟩
  let x_KeysError : ExT K mg "KeysError" := ⟨X_KeysError, PySem.W.mg_of X G g_KeysError, k_KeysError, h_KeysError, t_KeysError, u_KeysError, f_KeysError⟩
  let r_NoPlay : RzT K X_NoPlay := ⟨q_NoPlay, ⟨o_NoPlay, p_NoPlay, u_NoPlay, h_NoPlay, j_NoPlay, nG, nT, m_NoPlay⟩, t_NoPlay, w_NoPlay⟩
  let r_NoStand : RzT K X_NoStand := ⟨q_NoStand, ⟨o_NoStand, p_NoStand, u_NoStand, h_NoStand, j_NoStand, nG, nT, m_NoStand⟩, t_NoStand, w_NoStand⟩
  let T : Txt K mg w := ⟨⟨C_Trip, PySem.W.mg_of X G g_Trip, ⟨pg_Trip, hd_Trip, po_Trip, sa_Trip⟩, mk_Trip, kc_Trip⟩,
    n_Trip_hand,
    n_Trip_far,
    n_Trip_end,
    n_Trip_gone,
    n_Trip_here,
    n_Trip_legs,
    n_Trip_moves,
    n_Trip_steps,
    n_Trip_latest,
    n_Trip_dips,
    ⟨C_Road, PySem.W.mg_of X G g_Road, ⟨pg_Road, hd_Road, po_Road, sa_Road⟩, mk_Road, kc_Road⟩,
    n_Road_behind,
    n_Road_far,
    n_Road_legs,
    n_Road_row,
    n_Road_tables,
    ⟨C_Journey, PySem.W.mg_of X G g_Journey, ⟨pg_Journey, hd_Journey, po_Journey, sa_Journey⟩, mk_Journey, kc_Journey⟩,
    n_Journey_parts,
    n_Journey_ahead,
    n_Journey_there,
    n_Journey_roads,
    n_Journey_size,
    ⟨C_Scene, PySem.W.mg_of X G g_Scene, ⟨pg_Scene, hd_Scene, po_Scene, sa_Scene⟩, mk_Scene, kc_Scene⟩,
    n_Scene_spans,
    n_Scene_held,
    n_Scene_journey,
    n_Scene_there,
    n_Scene_size,
    ⟨f0, _, F0, PySem.W.mg_of X G a0, F0.binds (ps := ["thing"]) fun _ _ _ _ _ _ us hl => match us, hl with | [_], _ => rfl⟩,
    ⟨f1, _, F1, PySem.W.mg_of X G a1, F1.binds (ps := ["thing", "low"]) fun _ _ _ _ _ _ us hl => match us, hl with | [_, _], _ => rfl⟩,
    ⟨f2, _, F2, PySem.W.mg_of X G a2, F2.binds (ps := ["thing", "low", "high"]) fun _ _ _ _ _ _ us hl => match us, hl with | [_, _, _], _ => rfl⟩,
    ⟨f3, _, F3, PySem.W.mg_of X G a3, F3.binds (ps := ["thing"]) fun _ _ _ _ _ _ us hl => match us, hl with | [_], _ => rfl⟩,
    ⟨f4, _, F4, PySem.W.mg_of X G a4, F4.binds (ps := ["thing"]) fun _ _ _ _ _ _ us hl => match us, hl with | [_], _ => rfl⟩,
    ⟨f5, _, F5, PySem.W.mg_of X G a5, F5.binds (ps := ["thing"]) fun _ _ _ _ _ _ us hl => match us, hl with | [_], _ => rfl⟩,
    ⟨f6, _, F6, PySem.W.mg_of X G a6, F6.binds (ps := ["thing"]) fun _ _ _ _ _ _ us hl => match us, hl with | [_], _ => rfl⟩,
    ⟨f7, _, F7, PySem.W.mg_of X G a7, F7.binds (ps := ["thing"]) fun _ _ _ _ _ _ us hl => match us, hl with | [_], _ => rfl⟩,
    ⟨f8, _, F8, PySem.W.mg_of X G a8, F8.binds (ps := ["text"]) fun _ _ _ _ _ _ us hl => match us, hl with | [_], _ => rfl⟩,
    ⟨f9, _, F9, PySem.W.mg_of X G a9, F9.binds (ps := ["spans"]) fun _ _ _ _ _ _ us hl => match us, hl with | [_], _ => rfl⟩,
    ⟨f10, _, F10, PySem.W.mg_of X G a10, F10.binds (ps := ["thing"]) fun _ _ _ _ _ _ us hl => match us, hl with | [_], _ => rfl⟩,
    ⟨f11, _, F11, PySem.W.mg_of X G a11, F11.binds (ps := ["key"]) fun _ _ _ _ _ _ us hl => match us, hl with | [_], _ => rfl⟩,
    ⟨f12, _, F12, PySem.W.mg_of X G a12, F12.binds (ps := ["keys"]) fun _ _ _ _ _ _ us hl => match us, hl with | [_], _ => rfl⟩,
    ⟨f13, _, F13, PySem.W.mg_of X G a13, F13.binds (ps := ["thing"]) fun _ _ _ _ _ _ us hl => match us, hl with | [_], _ => rfl⟩,
    ⟨f14, _, F14, PySem.W.mg_of X G a14, F14.binds (ps := ["key", "lengths"]) fun _ _ _ _ _ _ us hl => match us, hl with | [_, _], _ => rfl⟩,
    ⟨f15, _, F15, PySem.W.mg_of X G a15, F15.binds (ps := ["hand", "side", "lengths"]) fun _ _ _ _ _ _ us hl => match us, hl with | [_, _, _], _ => rfl⟩,
    ⟨f16, _, F16, PySem.W.mg_of X G a16, F16.binds (ps := ["hand", "side"]) fun _ _ _ _ _ _ us hl => match us, hl with | [_, _], _ => rfl⟩,
    ⟨f17, _, F17, PySem.W.mg_of X G a17, F17.binds (ps := ["hand"]) fun _ _ _ _ _ _ us hl => match us, hl with | [_], _ => rfl⟩,
    ⟨f18, _, F18, PySem.W.mg_of X G a18, F18.binds (ps := ["lengths", "far"]) fun _ _ _ _ _ _ us hl => match us, hl with | [_, _], _ => rfl⟩,
    ⟨f19, _, F19, PySem.W.mg_of X G a19, F19.binds (ps := ["lengths", "gain", "times"]) fun _ _ _ _ _ _ us hl => match us, hl with | [_, _, _], _ => rfl⟩,
    ⟨f20, _, F20, PySem.W.mg_of X G a20, F20.binds (ps := ["ahead", "later"]) fun _ _ _ _ _ _ us hl => match us, hl with | [_, _], _ => rfl⟩,
    ⟨f21, _, F21, PySem.W.mg_of X G a21, F21.binds (ps := ["numbers"]) fun _ _ _ _ _ _ us hl => match us, hl with | [_], _ => rfl⟩,
    ⟨f22, _, F22, PySem.W.mg_of X G a22, F22.binds (ps := ["hand", "lengths"]) fun _ _ _ _ _ _ us hl => match us, hl with | [_, _], _ => rfl⟩,
    ⟨f23, _, F23, PySem.W.mg_of X G a23, F23.binds (ps := ["steps", "gain", "many"]) fun _ _ _ _ _ _ us hl => match us, hl with | [_, _, _], _ => rfl⟩,
    ⟨f24, _, F24, ⟨a24, i24, k24⟩, F24.binds (ps := ["self", "hand", "lengths", "end"]) fun _ _ _ _ _ _ us hl => match us, hl with | [_, _, _, _], _ => rfl⟩,
    ⟨f25, _, F25, ⟨a25, i25, k25⟩, F25.binds (ps := ["self"]) fun _ _ _ _ _ _ us hl => match us, hl with | [_], _ => rfl⟩,
    ⟨f26, _, F26, ⟨a26, i26, k26⟩, F26.binds (ps := ["self"]) fun _ _ _ _ _ _ us hl => match us, hl with | [_], _ => rfl⟩,
    ⟨f27, _, F27, ⟨a27, i27, k27⟩, F27.binds (ps := ["self"]) fun _ _ _ _ _ _ us hl => match us, hl with | [_], _ => rfl⟩,
    ⟨f28, _, F28, ⟨a28, i28, k28⟩, F28.binds (ps := ["self"]) fun _ _ _ _ _ _ us hl => match us, hl with | [_], _ => rfl⟩,
    ⟨f29, _, F29, ⟨a29, i29, k29⟩, F29.binds (ps := ["self", "side", "at", "gain"]) fun _ _ _ _ _ _ us hl => match us, hl with | [_, _, _, _], _ => rfl⟩,
    ⟨f30, _, F30, ⟨a30, i30, k30⟩, F30.binds (ps := ["self", "steps", "gain", "rounds"]) fun _ _ _ _ _ _ us hl => match us, hl with | [_, _, _, _], _ => rfl⟩,
    ⟨f31, _, F31, PySem.W.mg_of X G a31, F31.binds (ps := ["hand", "lengths", "end"]) fun _ _ _ _ _ _ us hl => match us, hl with | [_, _, _], _ => rfl⟩,
    ⟨f32, _, F32, PySem.W.mg_of X G a32, F32.binds (ps := ["thing"]) fun _ _ _ _ _ _ us hl => match us, hl with | [_], _ => rfl⟩,
    ⟨f33, _, F33, PySem.W.mg_of X G a33, F33.binds (ps := ["thing"]) fun _ _ _ _ _ _ us hl => match us, hl with | [_], _ => rfl⟩,
    ⟨f34, _, F34, PySem.W.mg_of X G a34, F34.binds (ps := ["thing"]) fun _ _ _ _ _ _ us hl => match us, hl with | [_], _ => rfl⟩,
    ⟨f35, _, F35, ⟨a35, i35, k35⟩, F35.binds (ps := ["self", "hand", "lengths", "times"]) fun _ _ _ _ _ _ us hl => match us, hl with | [_, _, _, _], _ => rfl⟩,
    ⟨f36, _, F36, ⟨a36, i36, k36⟩, F36.binds (ps := ["self", "play", "lengths"]) fun _ _ _ _ _ _ us hl => match us, hl with | [_, _, _], _ => rfl⟩,
    ⟨f37, _, F37, PySem.W.mg_of X G a37, F37.binds (ps := ["thing"]) fun _ _ _ _ _ _ us hl => match us, hl with | [_], _ => rfl⟩,
    ⟨f38, _, F38, PySem.W.mg_of X G a38, F38.binds (ps := ["thing"]) fun _ _ _ _ _ _ us hl => match us, hl with | [_], _ => rfl⟩,
    ⟨f39, _, F39, PySem.W.mg_of X G a39, F39.binds (ps := ["stand"]) fun _ _ _ _ _ _ us hl => match us, hl with | [_], _ => rfl⟩,
    ⟨f40, _, F40, ⟨a40, i40, k40⟩, F40.binds (ps := ["self", "stand", "play"]) fun _ _ _ _ _ _ us hl => match us, hl with | [_, _, _], _ => rfl⟩,
    ⟨f41, _, F41, PySem.W.mg_of X G a41, F41.binds (ps := ["stand", "play"]) fun _ _ _ _ _ _ us hl => match us, hl with | [_, _], _ => rfl⟩,
    ⟨f42, _, F42, PySem.W.mg_of X G a42, F42.binds (ps := ["stand", "play"]) fun _ _ _ _ _ _ us hl => match us, hl with | [_, _], _ => rfl⟩,
    ⟨f43, _, F43, PySem.W.mg_of X G a43, F43.binds (ps := ["script"]) fun _ _ _ _ _ _ us hl => match us, hl with | [_], _ => rfl⟩,
    ⟨f44, _, F44, PySem.W.mg_of X G a44, F44.binds (ps := ["spring", "many"]) fun _ _ _ _ _ _ us hl => match us, hl with | [_, _], _ => rfl⟩,
    ⟨f45, _, F45, PySem.W.mg_of X G a45, F45.binds (ps := ["found", "due"]) fun _ _ _ _ _ _ us hl => match us, hl with | [_, _], _ => rfl⟩,
    ⟨f46, _, F46, PySem.W.mg_of X G a46, F46.binds (ps := ["thing"]) fun _ _ _ _ _ _ us hl => match us, hl with | [_], _ => rfl⟩,
    ⟨f47, _, F47, PySem.W.mg_of X G a47, F47.binds (ps := ["spring", "thing"]) fun _ _ _ _ _ _ us hl => match us, hl with | [_, _], _ => rfl⟩,
    ⟨f48, _, F48, PySem.W.mg_of X G a48, F48.binds (ps := ["spring", "most"]) fun _ _ _ _ _ _ us hl => match us, hl with | [_, _], _ => rfl⟩,
    ⟨f49, _, F49, PySem.W.mg_of X G a49, F49.binds (ps := ["spring", "most", "wide", "times"]) fun _ _ _ _ _ _ us hl => match us, hl with | [_, _, _, _], _ => rfl⟩,
    ⟨f50, _, F50, PySem.W.mg_of X G a50, F50.binds (ps := ["spring", "text"]) fun _ _ _ _ _ _ us hl => match us, hl with | [_, _], _ => rfl⟩,
    ⟨f51, _, F51, PySem.W.mg_of X G a51, F51.binds (ps := ["spring", "stand"]) fun _ _ _ _ _ _ us hl => match us, hl with | [_, _], _ => rfl⟩,
    ⟨f52, _, F52, PySem.W.mg_of X G a52, F52.binds (ps := ["thing"]) fun _ _ _ _ _ _ us hl => match us, hl with | [_], _ => rfl⟩,
    ⟨fa, _, F53, PySem.W.mg_of X G a53, F53.binds (ps := ["script"]) fun _ _ _ _ _ _ us hl => match us, hl with | [_], _ => rfl⟩,
    PySem.W.mg_none_of X G z_abs,
    PySem.W.mg_none_of X G z_all,
    PySem.W.mg_none_of X G z_bool,
    PySem.W.mg_none_of X G z_divmod,
    PySem.W.mg_none_of X G z_enumerate,
    PySem.W.mg_none_of X G z_int,
    PySem.W.mg_none_of X G z_isinstance,
    PySem.W.mg_none_of X G z_len,
    PySem.W.mg_none_of X G z_list,
    PySem.W.mg_none_of X G z_min,
    PySem.W.mg_none_of X G z_range,
    PySem.W.mg_none_of X G z_repr,
    PySem.W.mg_none_of X G z_str,
    PySem.W.mg_none_of X G z_sum,
    PySem.W.mg_none_of X G z_tuple,
    PySem.W.mg_none_of X G z_type,
    x_NoPlay,
    x_NoStand,
    x_KeysError,
    r_NoPlay,
    r_NoStand,
    s_NoPlay_NoStand,
    s_NoPlay_KeysError,
    s_NoStand_NoPlay,
    s_NoStand_KeysError,
    ⟨_, PySem.W.mg_of X G v_ALPHABET⟩,
    ⟨_, PySem.W.mg_of X G v_FEW_ROUNDS⟩,
    ⟨_, PySem.W.mg_of X G v_HEAVIEST⟩,
    ⟨_, PySem.W.mg_of X G v_LONGEST_WORD⟩,
    ⟨_, PySem.W.mg_of X G v_MOST_LETTERS⟩,
    ⟨_, PySem.W.mg_of X G v_MOST_PARTS⟩,
    ⟨_, PySem.W.mg_of X G v_MOST_PIECES⟩,
    ⟨_, PySem.W.mg_of X G v_MOST_PRESSINGS⟩,
    ⟨d_NUMBERS, es_NUMBERS, n_NUMBERS, PySem.W.mg_of X G v_NUMBERS, ⟨l_NUMBERS, k_NUMBERS, b_NUMBERS⟩, e_NUMBERS⟩,
    ⟨d_SIDES, es_SIDES, n_SIDES, PySem.W.mg_of X G v_SIDES, ⟨l_SIDES, k_SIDES, b_SIDES⟩, e_SIDES⟩⟩
  exact ⟨T.f_law.fd, fun s v => .of_eq rfl, fun base _ _ hm => ok_law T hm⟩
end BK
open PySem PySem.W PyProof.Rows
set_option maxRecDepth 100000 in
set_option maxHeartbeats 0 in
theorem PySem.Challenge.cw_blindkeys_k31_what_is_a_stand_holds : PySem.Challenge.rw_blindkeys_k31_what_is_a_stand.Holds := by
  w_on; o_law; k_head; (case hw => w_witness2)
  k_fill
  refine BK.walk_G (l := PySem.Challenge.rw_blindkeys_k31_what_is_a_stand) (n := 63) (k := 16) (x := "script") (C := fun _ => L2.CX0) (sp := fun w => BK.spLaw _) rfl (by decide) (by decide +kernel) rfl ⟨rfl, by decide, by decide⟩ (fun w h Y => PySem.W.kIn_of Y) ?F (fun _ _ a ns hl _ hS => ⟨a, ns, rfl, hS, hl, fun _ => rfl⟩) (fun _ _ _ _ _ h => h)
  case F =>
    intro w mg fa h KX G hmg
    refine' BK.all_mk KX G hmg ?g_Trip ?pg_Trip ?hd_Trip ?po_Trip ?sa_Trip ?mk_Trip ?kc_Trip ?n_Trip_hand ?n_Trip_far ?n_Trip_end ?n_Trip_gone ?n_Trip_here ?n_Trip_legs ?n_Trip_moves ?n_Trip_steps ?n_Trip_latest ?n_Trip_dips ?g_Road ?pg_Road ?hd_Road ?po_Road ?sa_Road ?mk_Road ?kc_Road ?n_Road_behind ?n_Road_far ?n_Road_legs ?n_Road_row ?n_Road_tables ?g_Journey ?pg_Journey ?hd_Journey ?po_Journey ?sa_Journey ?mk_Journey ?kc_Journey ?n_Journey_parts ?n_Journey_ahead ?n_Journey_there ?n_Journey_roads ?n_Journey_size ?g_Scene ?pg_Scene ?hd_Scene ?po_Scene ?sa_Scene ?mk_Scene ?kc_Scene ?n_Scene_spans ?n_Scene_held ?n_Scene_journey ?n_Scene_there ?n_Scene_size ?a0 ?l0 ?c0 ?k0 ?a1 ?l1 ?c1 ?k1 ?a2 ?l2 ?c2 ?k2 ?a3 ?l3 ?c3 ?k3 ?a4 ?l4 ?c4 ?k4 ?a5 ?l5 ?c5 ?k5 ?a6 ?l6 ?c6 ?k6 ?a7 ?l7 ?c7 ?k7 ?a8 ?l8 ?c8 ?k8 ?a9 ?l9 ?c9 ?k9 ?a10 ?l10 ?c10 ?k10 ?a11 ?l11 ?c11 ?k11 ?a12 ?l12 ?c12 ?k12 ?a13 ?l13 ?c13 ?k13 ?a14 ?l14 ?c14 ?k14 ?a15 ?l15 ?c15 ?k15 ?a16 ?l16 ?c16 ?k16 ?a17 ?l17 ?c17 ?k17 ?a18 ?l18 ?c18 ?k18 ?a19 ?l19 ?c19 ?k19 ?a20 ?l20 ?c20 ?k20 ?a21 ?l21 ?c21 ?k21 ?a22 ?l22 ?c22 ?k22 ?a23 ?l23 ?c23 ?k23 ?a24 ?i24 ?l24 ?c24 ?k24 ?a25 ?i25 ?l25 ?c25 ?k25 ?a26 ?i26 ?l26 ?c26 ?k26 ?a27 ?i27 ?l27 ?c27 ?k27 ?a28 ?i28 ?l28 ?c28 ?k28 ?a29 ?i29 ?l29 ?c29 ?k29 ?a30 ?i30 ?l30 ?c30 ?k30 ?a31 ?l31 ?c31 ?k31 ?a32 ?l32 ?c32 ?k32 ?a33 ?l33 ?c33 ?k33 ?a34 ?l34 ?c34 ?k34 ?a35 ?i35 ?l35 ?c35 ?k35 ?a36 ?i36 ?l36 ?c36 ?k36 ?a37 ?l37 ?c37 ?k37 ?a38 ?l38 ?c38 ?k38 ?a39 ?l39 ?c39 ?k39 ?a40 ?i40 ?l40 ?c40 ?k40 ?a41 ?l41 ?c41 ?k41 ?a42 ?l42 ?c42 ?k42 ?a43 ?l43 ?c43 ?k43 ?a44 ?l44 ?c44 ?k44 ?a45 ?l45 ?c45 ?k45 ?a46 ?l46 ?c46 ?k46 ?a47 ?l47 ?c47 ?k47 ?a48 ?l48 ?c48 ?k48 ?a49 ?l49 ?c49 ?k49 ?a50 ?l50 ?c50 ?k50 ?a51 ?l51 ?c51 ?k51 ?a52 ?l52 ?c52 ?k52 ?a53 ?l53 ?c53 ?k53 ?g_NoPlay ?k_NoPlay ?h_NoPlay ?t_NoPlay ?u_NoPlay ?f_NoPlay ?g_NoStand ?k_NoStand ?h_NoStand ?t_NoStand ?u_NoStand ?f_NoStand ?g_KeysError ?k_KeysError ?h_KeysError ?t_KeysError ?u_KeysError ?f_KeysError ?nG ?nT ?q_NoPlay ?o_NoPlay ?p_NoPlay ?j_NoPlay ?m_NoPlay ?w_NoPlay ?s_NoPlay_NoStand ?s_NoPlay_KeysError ?q_NoStand ?o_NoStand ?p_NoStand ?j_NoStand ?m_NoStand ?w_NoStand ?s_NoStand_NoPlay ?s_NoStand_KeysError ?z_abs ?z_all ?z_bool ?z_divmod ?z_enumerate ?z_int ?z_isinstance ?z_len ?z_list ?z_min ?z_range ?z_repr ?z_str ?z_sum ?z_tuple ?z_type ?v_ALPHABET ?v_FEW_ROUNDS ?v_HEAVIEST ?v_LONGEST_WORD ?v_MOST_LETTERS ?v_MOST_PARTS ?v_MOST_PIECES ?v_MOST_PRESSINGS ?v_NUMBERS ?l_NUMBERS ?k_NUMBERS ?b_NUMBERS ?e_NUMBERS ?v_SIDES ?l_SIDES ?k_SIDES ?b_SIDES ?e_SIDES
    (case g_Trip => k_is)
    (case pg_Trip => k_is)
    (case hd_Trip => k_is)
    (case po_Trip => k_is)
    (case sa_Trip => k_is)
    (case mk_Trip => k_is)
    (case kc_Trip => k_is)
    (case n_Trip_hand => k_is)
    (case n_Trip_far => k_is)
    (case n_Trip_end => k_is)
    (case n_Trip_gone => k_is)
    (case n_Trip_here => k_is)
    (case n_Trip_legs => k_is)
    (case n_Trip_moves => k_is)
    (case n_Trip_steps => k_is)
    (case n_Trip_latest => k_is)
    (case n_Trip_dips => k_is)
    (case g_Road => k_is)
    (case pg_Road => k_is)
    (case hd_Road => k_is)
    (case po_Road => k_is)
    (case sa_Road => k_is)
    (case mk_Road => k_is)
    (case kc_Road => k_is)
    (case n_Road_behind => k_is)
    (case n_Road_far => k_is)
    (case n_Road_legs => k_is)
    (case n_Road_row => k_is)
    (case n_Road_tables => k_is)
    (case g_Journey => k_is)
    (case pg_Journey => k_is)
    (case hd_Journey => k_is)
    (case po_Journey => k_is)
    (case sa_Journey => k_is)
    (case mk_Journey => k_is)
    (case kc_Journey => k_is)
    (case n_Journey_parts => k_is)
    (case n_Journey_ahead => k_is)
    (case n_Journey_there => k_is)
    (case n_Journey_roads => k_is)
    (case n_Journey_size => k_is)
    (case g_Scene => k_is)
    (case pg_Scene => k_is)
    (case hd_Scene => k_is)
    (case po_Scene => k_is)
    (case sa_Scene => k_is)
    (case mk_Scene => k_is)
    (case kc_Scene => k_is)
    (case n_Scene_spans => k_is)
    (case n_Scene_held => k_is)
    (case n_Scene_journey => k_is)
    (case n_Scene_there => k_is)
    (case n_Scene_size => k_is)
    (case a0 => k_is)
    (case l0 => k_is)
    (case c0 => k_is)
    (case k0 => k_is)
    (case a1 => k_is)
    (case l1 => k_is)
    (case c1 => k_is)
    (case k1 => k_is)
    (case a2 => k_is)
    (case l2 => k_is)
    (case c2 => k_is)
    (case k2 => k_is)
    (case a3 => k_is)
    (case l3 => k_is)
    (case c3 => k_is)
    (case k3 => k_is)
    (case a4 => k_is)
    (case l4 => k_is)
    (case c4 => k_is)
    (case k4 => k_is)
    (case a5 => k_is)
    (case l5 => k_is)
    (case c5 => k_is)
    (case k5 => k_is)
    (case a6 => k_is)
    (case l6 => k_is)
    (case c6 => k_is)
    (case k6 => k_is)
    (case a7 => k_is)
    (case l7 => k_is)
    (case c7 => k_is)
    (case k7 => k_is)
    (case a8 => k_is)
    (case l8 => k_is)
    (case c8 => k_is)
    (case k8 => k_is)
    (case a9 => k_is)
    (case l9 => k_is)
    (case c9 => k_is)
    (case k9 => k_is)
    (case a10 => k_is)
    (case l10 => k_is)
    (case c10 => k_is)
    (case k10 => k_is)
    (case a11 => k_is)
    (case l11 => k_is)
    (case c11 => k_is)
    (case k11 => k_is)
    (case a12 => k_is)
    (case l12 => k_is)
    (case c12 => k_is)
    (case k12 => k_is)
    (case a13 => k_is)
    (case l13 => k_is)
    (case c13 => k_is)
    (case k13 => k_is)
    (case a14 => k_is)
    (case l14 => k_is)
    (case c14 => k_is)
    (case k14 => k_is)
    (case a15 => k_is)
    (case l15 => k_is)
    (case c15 => k_is)
    (case k15 => k_is)
    (case a16 => k_is)
    (case l16 => k_is)
    (case c16 => k_is)
    (case k16 => k_is)
    (case a17 => k_is)
    (case l17 => k_is)
    (case c17 => k_is)
    (case k17 => k_is)
    (case a18 => k_is)
    (case l18 => k_is)
    (case c18 => k_is)
    (case k18 => k_is)
    (case a19 => k_is)
    (case l19 => k_is)
    (case c19 => k_is)
    (case k19 => k_is)
    (case a20 => k_is)
    (case l20 => k_is)
    (case c20 => k_is)
    (case k20 => k_is)
    (case a21 => k_is)
    (case l21 => k_is)
    (case c21 => k_is)
    (case k21 => k_is)
    (case a22 => k_is)
    (case l22 => k_is)
    (case c22 => k_is)
    (case k22 => k_is)
    (case a23 => k_is)
    (case l23 => k_is)
    (case c23 => k_is)
    (case k23 => k_is)
    (case a24 => k_is)
    (case i24 => k_is)
    (case l24 => k_is)
    (case c24 => k_is)
    (case k24 => k_is)
    (case a25 => k_is)
    (case i25 => k_is)
    (case l25 => k_is)
    (case c25 => k_is)
    (case k25 => k_is)
    (case a26 => k_is)
    (case i26 => k_is)
    (case l26 => k_is)
    (case c26 => k_is)
    (case k26 => k_is)
    (case a27 => k_is)
    (case i27 => k_is)
    (case l27 => k_is)
    (case c27 => k_is)
    (case k27 => k_is)
    (case a28 => k_is)
    (case i28 => k_is)
    (case l28 => k_is)
    (case c28 => k_is)
    (case k28 => k_is)
    (case a29 => k_is)
    (case i29 => k_is)
    (case l29 => k_is)
    (case c29 => k_is)
    (case k29 => k_is)
    (case a30 => k_is)
    (case i30 => k_is)
    (case l30 => k_is)
    (case c30 => k_is)
    (case k30 => k_is)
    (case a31 => k_is)
    (case l31 => k_is)
    (case c31 => k_is)
    (case k31 => k_is)
    (case a32 => k_is)
    (case l32 => k_is)
    (case c32 => k_is)
    (case k32 => k_is)
    (case a33 => k_is)
    (case l33 => k_is)
    (case c33 => k_is)
    (case k33 => k_is)
    (case a34 => k_is)
    (case l34 => k_is)
    (case c34 => k_is)
    (case k34 => k_is)
    (case a35 => k_is)
    (case i35 => k_is)
    (case l35 => k_is)
    (case c35 => k_is)
    (case k35 => k_is)
    (case a36 => k_is)
    (case i36 => k_is)
    (case l36 => k_is)
    (case c36 => k_is)
    (case k36 => k_is)
    (case a37 => k_is)
    (case l37 => k_is)
    (case c37 => k_is)
    (case k37 => k_is)
    (case a38 => k_is)
    (case l38 => k_is)
    (case c38 => k_is)
    (case k38 => k_is)
    (case a39 => k_is)
    (case l39 => k_is)
    (case c39 => k_is)
    (case k39 => k_is)
    (case a40 => k_is)
    (case i40 => k_is)
    (case l40 => k_is)
    (case c40 => k_is)
    (case k40 => k_is)
    (case a41 => k_is)
    (case l41 => k_is)
    (case c41 => k_is)
    (case k41 => k_is)
    (case a42 => k_is)
    (case l42 => k_is)
    (case c42 => k_is)
    (case k42 => k_is)
    (case a43 => k_is)
    (case l43 => k_is)
    (case c43 => k_is)
    (case k43 => k_is)
    (case a44 => k_is)
    (case l44 => k_is)
    (case c44 => k_is)
    (case k44 => k_is)
    (case a45 => k_is)
    (case l45 => k_is)
    (case c45 => k_is)
    (case k45 => k_is)
    (case a46 => k_is)
    (case l46 => k_is)
    (case c46 => k_is)
    (case k46 => k_is)
    (case a47 => k_is)
    (case l47 => k_is)
    (case c47 => k_is)
    (case k47 => k_is)
    (case a48 => k_is)
    (case l48 => k_is)
    (case c48 => k_is)
    (case k48 => k_is)
    (case a49 => k_is)
    (case l49 => k_is)
    (case c49 => k_is)
    (case k49 => k_is)
    (case a50 => k_is)
    (case l50 => k_is)
    (case c50 => k_is)
    (case k50 => k_is)
    (case a51 => k_is)
    (case l51 => k_is)
    (case c51 => k_is)
    (case k51 => k_is)
    (case a52 => k_is)
    (case l52 => k_is)
    (case c52 => k_is)
    (case k52 => k_is)
    (case a53 => k_is)
    (case l53 => k_is)
    (case c53 => k_is)
    (case k53 => k_is)
    (case g_NoPlay => k_is)
    (case k_NoPlay => k_is)
    (case h_NoPlay => k_is)
    (case t_NoPlay => k_is)
    (case u_NoPlay => k_is)
    (case f_NoPlay => k_is)
    (case g_NoStand => k_is)
    (case k_NoStand => k_is)
    (case h_NoStand => k_is)
    (case t_NoStand => k_is)
    (case u_NoStand => k_is)
    (case f_NoStand => k_is)
    (case g_KeysError => k_is)
    (case k_KeysError => k_is)
    (case h_KeysError => k_is)
    (case t_KeysError => k_is)
    (case u_KeysError => k_is)
    (case f_KeysError => k_is)
    (case nG => k_is)
    (case nT => k_is)
    (case q_NoPlay => k_exc)
    (case o_NoPlay => k_is)
    (case p_NoPlay => k_is)
    (case j_NoPlay => k_is)
    (case m_NoPlay => k_is)
    (case w_NoPlay => k_is)
    (case s_NoPlay_NoStand => k_is)
    (case s_NoPlay_KeysError => k_is)
    (case q_NoStand => k_exc)
    (case o_NoStand => k_is)
    (case p_NoStand => k_is)
    (case j_NoStand => k_is)
    (case m_NoStand => k_is)
    (case w_NoStand => k_is)
    (case s_NoStand_NoPlay => k_is)
    (case s_NoStand_KeysError => k_is)
    (case z_abs => k_is)
    (case z_all => k_is)
    (case z_bool => k_is)
    (case z_divmod => k_is)
    (case z_enumerate => k_is)
    (case z_int => k_is)
    (case z_isinstance => k_is)
    (case z_len => k_is)
    (case z_list => k_is)
    (case z_min => k_is)
    (case z_range => k_is)
    (case z_repr => k_is)
    (case z_str => k_is)
    (case z_sum => k_is)
    (case z_tuple => k_is)
    (case z_type => k_is)
    (case v_ALPHABET => k_is)
    (case v_FEW_ROUNDS => k_is)
    (case v_HEAVIEST => k_is)
    (case v_LONGEST_WORD => k_is)
    (case v_MOST_LETTERS => k_is)
    (case v_MOST_PARTS => k_is)
    (case v_MOST_PIECES => k_is)
    (case v_MOST_PRESSINGS => k_is)
    (case v_NUMBERS => k_is)
    (case l_NUMBERS => k_is)
    (case k_NUMBERS => k_keys)
    (case b_NUMBERS => rfl)
    (case e_NUMBERS => rfl)
    (case v_SIDES => k_is)
    (case l_SIDES => k_is)
    (case k_SIDES => k_keys)
    (case b_SIDES => rfl)
    (case e_SIDES => rfl)
