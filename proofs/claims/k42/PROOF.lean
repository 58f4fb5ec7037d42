import PyProof.Rows.All
import Wide.All
import OpenK.AllK
import Wide.FinOn
import PyProof.TypeEq
import PyProof.Rows.StrMul
import PyProof.LongRange
import HandS.ForMost
import HandS.Wide
import HandS.WideBits
import HandS.More
import HandS.StrMore
import HandS.NoneIn
import HandS.Flow
import HandS.SortInts
import PyProof.ListStr
import HandS.Defaults
import HandS.Dict
import HandS.Conv
import HandS.Replace
import PyProof.ReprRoads
import PyProof.ReprBulk
import HandS.IsInst
import HandS.Codes
import HandS.Style
import HandS.Walk
import HandS.Iter
import KE.GoesMore
import HandS.Text
import PyProof.Rows.SeqMore
import HandS.FStr
import HandS.RaiseMore
import HandS.Deep
import KE.IntTextLaws
import HandS.SortKw
import KE.DataMinMax
import HandS.TupAny
import KE.KTupSum
import KE.DataCmp
import KE.SortData
import HandS.ForExc
import PyProof.Rows.SortShellAny
import HandS.Gcd
import PySem.Challenge.RW_blindkeys_k42_whole_prints_come_again
set_option Elab.async false
set_option linter.all false
set_option maxRecDepth 100000
set_option maxHeartbeats 4000000
set_option synthInstance.maxHeartbeats 4000000
set_option synthInstance.maxSize 100000
namespace BK
open PySem PySem.Spec PyProof.Rows L2

/-! ### more rules -/
section
variable {A : Around} {s : Shared}
theorem meta_of {n : String} (h : n ∈ ["int", "str", "bool", "NoneType", "list", "tuple", "dict"]) (s' : Shared) : s'.TypeIs (.type n) "type" := by
  simp only [List.mem_cons, List.not_mem_nil, or_false] at h
  rcases h with rfl | rfl | rfl | rfl | rfl | rfl | rfl
  · exact TypeEq.meta_int s'
  · exact TypeEq.meta_str s'
  · exact TypeEq.meta_bool s'
  · exact TypeEq.meta_NoneType s'
  · exact TypeEq.meta_list s'
  · exact TypeEq.meta_tuple s'
  · exact TypeEq.meta_dict s'
theorem eqAt_ty {a b : String} (ha : a ∈ ["int", "str", "bool", "NoneType", "list", "tuple", "dict"]) (hb : b ∈ ["int", "str", "bool", "NoneType", "list", "tuple", "dict"]) : SeqAt.EqAt A s (.type a) (.type b) (decide (a = b)) := fun prog w E Q h => by
  unfold eqBool
  refine wpAny_holding ?_
  by_cases e : a = b
  · subst e
    rw [decide_eq_true rfl] at h
    refine wpAny_ite_split (fun _ => wpAny_bind (wpAny_rule (wpAny_pure h))) (fun hab => absurd (beq_self_eq_true _) hab)
  · rw [decide_eq_false e] at h
    have hne : (Value.type a == Value.type b) = false := beq_eq_false_iff_ne.mpr fun z => e (Value.type.inj z)
    refine wpAny_ite_split (fun hab => absurd hab (by rw [hne]; exact Bool.false_ne_true)) (fun _ => ?_)
    exact wpAny_bind (TypeEq.eq_type_other (meta_of ha) (meta_of hb) hne (wpAny_truthy_bool h))
end
abbrev knownTy : List String := ["int", "str", "bool", "NoneType", "list", "tuple", "dict"]
/-- type(x) in (list, tuple) -/
def rInTy (K : PySem.W.Frag) : R2 := fun x y H Q => ∃ (a : String) (p : Addr) (ns : List String), x = .ty a ∧ y = .ref p ∧ SqT K H p (ns.map V.ty) ∧ a ∈ knownTy ∧ (∀ n ∈ ns, n ∈ knownTy) ∧ Q (.bl (decide (a ∈ ns))) H
theorem vals_ty : ∀ {ns : List String} {us : List Value}, Vals (ns.map V.ty) us → us = ns.map Value.type
  | [], _, .nil => rfl
  | n :: ns, _, .cons r t => by
    have e := vals_ty t
    cases (show _ = Value.type n from r)
    rw [e, List.map_cons]
section
variable {X : Cx}
theorem op_in_ty : OpR X (compareOp .In) (rInTy X.K) := by
  intro pins s σ H x y v u Q I rx ry h
  obtain ⟨a, p, ns, rfl, rfl, hq, ha, hn, q⟩ := h
  cases (show v = Value.type a from rx)
  cases (show u = Value.ref p from ry)
  obtain ⟨its, r, pl, hz⟩ := I.tuple hq
  have e := vals_ty r
  subst e
  refine SeqAt.in_tupleAt (fun y => match y with | .type n => decide (n = a) | _ => false) pl (fun w hw => ?_) ⟨.bl _, H, I, rfl, ?_⟩
  · simp only [List.mem_toArray, List.mem_map] at hw
    obtain ⟨n, hn1, rfl⟩ := hw
    exact eqAt_ty (hn n hn1) ha
  · have e : (((ns.map Value.type).toArray).any (fun y => match y with | .type n => decide (n = a) | _ => false)) = decide (a ∈ ns) := by
      rw [List.any_toArray, List.any_map, Bool.eq_iff_iff, List.any_eq_true, decide_eq_true_iff]
      constructor
      · rintro ⟨n, h1, h2⟩
        have : n = a := of_decide_eq_true h2
        subst this
        exact h1
      · intro h1
        exact ⟨a, h1, decide_eq_true rfl⟩
    rw [e]
    exact q
/-- text * int -/
def rMulS : R2 := fun x y H Q => ∃ z n, x = .str z ∧ y = .int n ∧ MulOk z n ∧ Q (.str (Txt.mul z n)) H
theorem op_mul_str : OpR X (binaryOp .Mult) rMulS := by
  intro pins s σ H x y v u Q I rx ry h
  obtain ⟨z, n, rfl, rfl, ok, q⟩ := h
  obtain ⟨t, rfl⟩ := rx
  obtain ⟨t', rfl⟩ := ry
  exact SB.mul ok fun t2 k => ⟨.str _, H, I.tok _, ⟨_, rfl⟩, q⟩
theorem OpR.or {f : Value → Value → Sem Value} {r r' : R2} (h : OpR X f r) (h' : OpR X f r') : OpR X f (fun x y H Q => r x y H Q ∨ r' x y H Q) := by
  intro pins s σ H x y v u Q I rx ry hh
  rcases hh with hh | hh
  · exact h pins s σ H x y v u Q I rx ry hh
  · exact h' pins s σ H x y v u Q I rx ry hh
theorem pi_or {tg it : PySem.Expr} {w1 w2 : TI} (h1 : PI X tg it w1) (h2 : PI X tg it w2) : PI X tg it (fun σ H R => w1 σ H R ∨ w2 σ H R) := ⟨fun pins s σ H R I h => by
  rcases h with h | h
  · exact h1.run pins s σ H R I h
  · exact h2.run pins s σ H R I h⟩
theorem pg_or {tg : PySem.Expr} {g1 g2 : TG} (h1 : PG X tg g1) (h2 : PG X tg g2) : PG X tg (fun v σ H Q => g1 v σ H Q ∨ g2 v σ H Q) := ⟨fun pins s σ H v u Q I r h => by
  rcases h with h | h
  · exact h1.run pins s σ H v u Q I r h
  · exact h2.run pins s σ H v u Q I r h⟩
end

/-! ### range(a, b) of any ints -/
section
theorem turn_long {P : Program} {w : World} {K : PySem.W.Frag} {tg : PySem.Expr} (it : Addr) (lo : Int) (n : Nat) : Turn P w K tg (Itr lo n) [it] it (fun i h => IsLongIter h it (lo + (i : Nat) * 1) ((n : Int) - (i : Nat)) 1) where
  mem := by simp
  obj := fun i h st b hb => by
    have e : b = it := by simpa using hb
    subst e
    exact ⟨_, st, fun v z => by
      have z' : Data.fields _ = Data.cell v := z
      cases z'⟩
  keep := fun i h h' st k => k it (by simp) _ st
  item := by
    intro X hP hw hK hc i pins s σ H E I hf st hg
    subst hP hw hK
    obtain ⟨f0, f1, f2, f3, f4, f5⟩ := hf it (by simp)
    have W := Walks.longrange (prog := X.prog) (w := X.w) (I.ok.hd hc) it lo 1 n
    refine W.item i s _ _ hg st fun v h' tk hv st' kk => ?_
    obtain ⟨t, rfl⟩ := hv
    have I1 : Inv X pins σ H { s with heap := h', toks := tk } := I.turned (fun b o hb e => kk b o (by simpa using hb) e) f0 f1 f3 f4 f5
    refine ⟨_, rfl, go_of (s := { s with heap := h', toks := tk }) (n := "longrange_iterator") st' rfl rfl (by decide) ⟨.int (lo + i), H, I1, ⟨t, ?_⟩, ⟨rfl, rfl⟩, st', fun b hb => (hf b hb).1⟩⟩
    rw [Int.mul_one]
  done := by
    intro X hP hw hK hc i pins s σ H E I hf st hg
    subst hP hw hK
    obtain ⟨f0, f1, f2, f3, f4, f5⟩ := hf it (by simp)
    exact wpAny_pyNext_long_end (I.ok.hd hc) st (by have : n ≤ i := hg; omega) fun h' eb => ⟨rfl, I.turned (t' := s.toks) (fun b o hb e => eb b o hb e) f0 f1 f3 f4 f5⟩
  self := fun _ _ _ _ _ st h => wpAny_pyIter_longiter st h
variable {X : Cx} {tg : PySem.Expr}
theorem rsize1 (lo hi : Int) : Builtin.Range.rangeSize lo hi 1 = (((hi - lo).toNat : Nat) : Int) := by
  rw [rangeSize_one]
  split <;> omega
theorem range_itL {pins : List (Addr × Obj)} {σ : L2.St} {H : Hp} {s : Shared} {R : It → Hp → Prop} {E : Value → Shared → Prop} {lo hi : Int} {t u v : Tok} {tk : Nat} (I : Inv X pins σ H s)
    (q : R (Itr lo (hi - lo).toNat) H) : wpAny (model X.prog X.w) X.A (pyIter (.ref s.heap.objs.size)) (PIE X pins σ tg R) E { s with heap := s.heap.push { cls := .type "range", data := .fields #[.int lo t, .int hi u, .int 1 v] }, toks := tk } := by
  have I1 : Inv X pins σ H { s with heap := s.heap.push { cls := .type "range", data := .fields #[.int lo t, .int hi u, .int 1 v] }, toks := tk } := I.kept fun b o e => Heap.get?_push_of_some _ e
  have e1 : lo + ((0 : Nat) : Int) * 1 = lo := by simp
  have e2 : (((hi - lo).toNat : Nat) : Int) - ((0 : Nat) : Int) = Builtin.Range.rangeSize lo hi 1 := by rw [rsize1]; omega
  have hf : ∀ b ∈ [(s.heap.push { cls := .type "range", data := .fields #[.int lo t, .int hi u, .int 1 v] }).objs.size], FpOk X pins H b := fun b hb => by
    have e : b = (s.heap.push { cls := .type "range", data := .fields #[.int lo t, .int hi u, .int 1 v] }).objs.size := by simpa using hb
    subst e
    exact I1.fpOk (Nat.le_refl _) (I1.hok.fresh (Nat.le_refl _))
  cases hs : Builtin.Range.small lo hi 1 with
  | true =>
    refine wpAny_pyIter_range (IsRange.new ..) hs ?_
    refine ⟨(s.heap.push { cls := .type "range", data := .fields #[.int lo t, .int hi u, .int 1 v] }).objs.size, [(s.heap.push { cls := .type "range", data := .fields #[.int lo t, .int hi u, .int 1 v] }).objs.size], _, _, H, rfl,
      I1.kept (t' := tk) fun b o e => Heap.get?_push_of_some _ e, turn_range _ lo (hi - lo).toNat, ?_, hf, q⟩
    show IsRangeIter _ _ (lo + ((0 : Nat) : Int) * 1) ((((hi - lo).toNat : Nat) : Int) - ((0 : Nat) : Int)) 1
    rw [e1, e2]
    exact Heap.get?_push_size _ rfl
  | false =>
    refine wpAny_pyIter_longrange (IsRange.new ..) hs ?_
    refine ⟨(s.heap.push { cls := .type "range", data := .fields #[.int lo t, .int hi u, .int 1 v] }).objs.size, [(s.heap.push { cls := .type "range", data := .fields #[.int lo t, .int hi u, .int 1 v] }).objs.size], _, _, H, rfl,
      I1.kept (t' := tk) fun b o e => Heap.get?_push_of_some _ e, turn_long _ lo (hi - lo).toNat, ?_, hf, q⟩
    show IsLongIter _ _ (lo + ((0 : Nat) : Int) * 1) ((((hi - lo).toNat : Nat) : Int) - ((0 : Nat) : Int)) 1
    rw [e1, e2]
    exact Heap.get?_push_size _ rfl
def iRng2L (ta : TA) : TI := fun σ H R => ta σ H fun vs H1 => ∃ i j : Int, vs = [.int i, .int j] ∧ R (Itr i (j - i).toNat) H1
theorem pi_range2L {a b : PySem.Expr} {ta : TA} {p pos : Pos} (hg : Gl X "range") (hm : X.mg "range" = none) (ha : PA X [a, b] ta) (hs : starEach [a, b] X.env = [(false, eval a X.env), (false, eval b X.env)] := by rfl) (hs2 : starEach [b] X.env = [(false, eval b X.env)] := by rfl) :
    PI X tg (.Call (.Name "range" p) [a, b] [] pos) (iRng2L ta) := by
  refine ⟨fun pins s σ H R I h => ?_⟩
  refine Call_ (ld_blt I hg hm boot_range (PyProof.Rows.callWith_type1 (thn (ha.run pos pins s σ H _ I h) fun us s1 ⟨vs, H1, I1, r1, q1⟩ => ?_) (by rw [hs, hs2]) (by rw [hs2]; rfl)))
  obtain ⟨i, j, e, q⟩ := q1
  subst e
  cases r1 with
  | cons r rr =>
    cases rr with
    | cons r' rr =>
      cases rr
      obtain ⟨t, rfl⟩ := r
      obtain ⟨t', rfl⟩ := r'
      exact call_range_2 (range_itL I1 q)
end

/-! ### rows: a list or a tuple -/
def Row (K : PySem.W.Frag) (H : Hp) (a : Addr) (xs : List V) : Prop := SqL K H a xs ∨ SqT K H a xs
theorem sameT {K : PySem.W.Frag} {H H' : Hp} {a : Addr} {xs : List V} (e : Same H H') (h : SqT K H a xs) : SqT K H' a xs := by
  rcases h with (h | ⟨o, h⟩) | h
  · exact .inl (.inl (e _ _ h))
  · exact .inl (.inr ⟨o, e _ _ h⟩)
  · exact .inr h
theorem Row.same {K : PySem.W.Frag} {H H' : Hp} {a : Addr} {xs : List V} (e : Same H H') (h : Row K H a xs) : Row K H' a xs := h.imp e.seq (sameT e)
theorem same_upd {H : Hp} {p : Addr} {o : HO} (h : H p = none) : Same H (upd H p o) := fun b x e => by
  rw [upd_ne (ne_of_none e h)]
  exact e
section
variable {X : Cx} {pos : Pos}
theorem call_lenA : CallR X (.builtin "len") (fun xs H Q => (∃ p ys, xs = [.ref p] ∧ (SqL X.K H p ys ∨ SqT X.K H p ys) ∧ Q (.int ys.length) H) ∨ (∃ z, xs = [.str z] ∧ z.length ≤ sizeLine ∧ Q (.int z.length) H)) := CallR.or call_len_seq call_len_str
def iSeq (K : PySem.W.Frag) (tl : TE) : TI := fun σ H R => iList K tl σ H R ∨ iTup K tl σ H R
theorem pi_seq {tg l : PySem.Expr} {tl : TE} (hl : PE X l tl) : PI X tg l (iSeq X.K tl) := pi_or (pi_list hl) (pi_tup hl)
def gSeq (K : PySem.W.Frag) (n : Nat) (t : TGs) : TG := fun v σ H Q => gTup K n t v σ H Q ∨ gUnl K n t v σ H Q
theorem pg_seq {es : List PySem.Expr} {k : Nat} {t : TGs} {n : Nat} (hc : X.calm = true) (h : PGs X es t)
    (hn : (assignEach es X.env).length = n := by rfl) (hst : (assignEach es X.env).findIdx? (·.1) = none := by rfl) : PG X (.Tuple es k pos) (gSeq X.K n t) := pg_or (pg_tup hc h hn hst) (pg_unl hc h hn hst)
end
theorem gSeq.row {K : PySem.W.Frag} {n : Nat} {t : TGs} {a : Addr} {xs : List V} {σ : L2.St} {H : Hp} {Q : L2.St → Hp → Prop} (h : Row K H a xs) (hl : xs.length = n) (q : t xs σ H Q) : gSeq K n t (.ref a) σ H Q := by
  rcases h with h | h
  · exact .inr ⟨a, xs, rfl, h, hl, q⟩
  · exact .inl ⟨a, xs, rfl, h, hl, q⟩
/-- for x in (a row that stands in slot i) -/
theorem for_row {K : PySem.W.Frag} {a : Addr} {xs : List V} {g : TG} {tb : TS} {D : Ends} {σ : L2.St} {Hb H : Hp} {j : Nat} (hv : σ[j]? = some (some (.ref a))) (hr : Row K Hb a xs) (hb : Same Hb H) (Pv : Nat → L2.St → Hp → Prop) (h0 : Pv 0 σ H) (hl : ∀ i σ H', i ≤ xs.length → Pv i σ H' → Same Hb H')
    (hs : ∀ i x σ H, xs[i]? = some x → Pv i σ H → g x σ H fun σ2 H2 => tb { D with nx := Pv (i + 1), ct := Pv (i + 1), bk := D.nx } σ2 H2) (hd : ∀ σ H, Pv xs.length σ H → D.nx σ H) :
    tFor (iSeq K (tVar j)) g tb D σ H := by
  rcases hr with hr | hr
  · exact .inl ⟨_, hv, a, rfl, ⟨_, hb.seq hr⟩, for_list (K := K) (a := a) (xs := xs) Pv h0 (fun i σ H' hi p => (hl i σ H' hi p).seq hr) hs hd⟩
  · exact .inr ⟨_, hv, a, rfl, ⟨_, sameT hb hr⟩, for_tup (K := K) (a := a) (xs := xs) Pv h0 (fun i σ H' hi p => sameT (hl i σ H' hi p) hr) hs hd⟩
/-! ### the same rules with the written part named, for use within comprehensions -/
section
variable {X : Cx} {pos : Pos} (K : PySem.W.Frag)
def rLenA (K : PySem.W.Frag) : List V → Hp → VK → Prop := fun xs H Q => (∃ p ys, xs = [.ref p] ∧ (SqL K H p ys ∨ SqT K H p ys) ∧ Q (.int ys.length) H) ∨ (∃ z, xs = [.str z] ∧ z.length ≤ sizeLine ∧ Q (.int z.length) H)
theorem ix_seqK (hK : X.K = K := by rfl) : IxR X (rIx K) := hK ▸ ix_seq
theorem call_lenK (hK : X.K = K := by rfl) : CallR X (.builtin "len") (rLenA K) := hK ▸ call_lenA
theorem pg_tupK {es : List PySem.Expr} {k : Nat} {t : TGs} {n : Nat} (hc : X.calm = true) (h : PGs X es t)
    (hn : (assignEach es X.env).length = n := by rfl) (hst : (assignEach es X.env).findIdx? (·.1) = none := by rfl) (hK : X.K = K := by rfl) : PG X (.Tuple es k pos) (gTup K n t) := hK ▸ pg_tup hc h hn hst
theorem pg_seqK {es : List PySem.Expr} {k : Nat} {t : TGs} {n : Nat} (hc : X.calm = true) (h : PGs X es t)
    (hn : (assignEach es X.env).length = n := by rfl) (hst : (assignEach es X.env).findIdx? (·.1) = none := by rfl) (hK : X.K = K := by rfl) : PG X (.Tuple es k pos) (gSeq K n t) := hK ▸ pg_seq hc h hn hst
end

/-! ### loops and comprehensions, folded -/
def ForGo (J : It) (g : TG) (tb : TS) (D : Ends) (σ : L2.St) (H : Hp) : Prop := ∃ W : Nat → Nat → L2.St → Hp → Prop, (∃ m, W 0 m σ H) ∧ ∀ i m σ H, W i m σ H →
  (J.stop i H ∧ D.nx σ H) ∨ (J.go i H ∧ ∃ N : L2.St → Hp → Prop, (∀ σ' H', N σ' H' → ∃ m', m' < m ∧ W (i + 1) m' σ' H') ∧ ∀ x H', J.yld i H x H' → g x σ H' fun σ2 H2 => tb { D with nx := N, ct := N, bk := D.nx } σ2 H2)
def LcGo (J : It) (g : TG) (tt : TT) (te : TE) (vs : List Nat) (σ : L2.St) (H1 : Hp) (D : Addr) (Q : VK) : Prop := ∃ W : Nat → Nat → Hp → Prop, (∃ m, W 0 m (upd H1 D (.lst []))) ∧ ∀ i m H, W i m H →
  (J.stop i H ∧ Q (.ref D) H) ∨ (J.go i H ∧ ∃ Nx : Hp → Prop, (∀ H', Nx H' → ∃ m', m' < m ∧ W (i + 1) m' H') ∧ ∀ x H', J.yld i H x H' → g x (wipe σ vs) H' fun σ2 H2 => wipe σ2 vs = wipe σ vs ∧ tt σ2 H2 fun b H3 =>
    if b = true then te σ2 H3 fun y H4 => ∃ acc, H4 D = some (.lst acc) ∧ acc.length < sizeLine ∧ Nx (upd H4 D (.lst (acc ++ [y]))) else Nx H3)
section
variable {K : PySem.W.Frag} {ta : TA} {tl : TE} {g : TG} {tb : TS} {D : Ends} {σ : L2.St} {H : Hp} {tt : TT} {te : TE} {vs : List Nat} {Q : VK}
theorem fr_rng1 (h : ta σ H fun us H1 => ∃ j : Int, us = [.int j] ∧ -(2 ^ 62) ≤ j ∧ j < 2 ^ 62 ∧ ForGo (Itr 0 j.toNat) g tb D σ H1) : tFor (iRng1 ta) g tb D σ H := h
theorem fr_rng2 (h : ta σ H fun us H1 => ∃ i j : Int, us = [.int i, .int j] ∧ (-(2 ^ 62) ≤ i ∧ i < 2 ^ 62 ∧ -(2 ^ 62) ≤ j ∧ j < 2 ^ 62) ∧ ForGo (Itr i (j - i).toNat) g tb D σ H1) : tFor (iRng2 ta) g tb D σ H := h
theorem fr_rng2L (h : ta σ H fun us H1 => ∃ i j : Int, us = [.int i, .int j] ∧ ForGo (Itr i (j - i).toNat) g tb D σ H1) : tFor (iRng2L ta) g tb D σ H := h
theorem fr_list (h : tl σ H fun x H1 => ∃ a, x = .ref a ∧ (∃ xs, SqL K H1 a xs) ∧ ForGo (Itl K a) g tb D σ H1) : tFor (iList K tl) g tb D σ H := h
theorem fr_str (h : tl σ H fun v H1 => ∃ x, v = .str x ∧ ForGo (Its x) g tb D σ H1) : tFor (iStr tl) g tb D σ H := h
theorem lc_rng1 (h : ta σ H fun us H1 => ∃ j : Int, us = [.int j] ∧ -(2 ^ 62) ≤ j ∧ j < 2 ^ 62 ∧ ∀ D, H1 D = none → LcGo (Itr 0 j.toNat) g tt te vs σ H1 D Q) : tLc (iRng1 ta) g tt te vs σ H Q := h
theorem lc_rng2 (h : ta σ H fun us H1 => ∃ i j : Int, us = [.int i, .int j] ∧ (-(2 ^ 62) ≤ i ∧ i < 2 ^ 62 ∧ -(2 ^ 62) ≤ j ∧ j < 2 ^ 62) ∧ ∀ D, H1 D = none → LcGo (Itr i (j - i).toNat) g tt te vs σ H1 D Q) : tLc (iRng2 ta) g tt te vs σ H Q := h
theorem lc_rng2L (h : ta σ H fun us H1 => ∃ i j : Int, us = [.int i, .int j] ∧ ∀ D, H1 D = none → LcGo (Itr i (j - i).toNat) g tt te vs σ H1 D Q) : tLc (iRng2L ta) g tt te vs σ H Q := h
theorem lc_lst (h : tl σ H fun x H1 => ∃ a, x = .ref a ∧ (∃ xs, SqL K H1 a xs) ∧ ∀ D, H1 D = none → LcGo (Itl K a) g tt te vs σ H1 D Q) : tLc (iList K tl) g tt te vs σ H Q := h
theorem lc_str (h : tl σ H fun v H1 => ∃ x, v = .str x ∧ ∀ D, H1 D = none → LcGo (Its x) g tt te vs σ H1 D Q) : tLc (iStr tl) g tt te vs σ H Q := h

theorem ForGo.range {lo : Int} {n : Nat} (Pv : Nat → L2.St → Hp → Prop) (h0 : Pv 0 σ H)
    (hs : ∀ i σ H, i < n → Pv i σ H → g (.int (lo + i)) σ H fun σ2 H2 => tb { D with nx := Pv (i + 1), ct := Pv (i + 1), bk := D.nx } σ2 H2) (hd : ∀ σ H, Pv n σ H → D.nx σ H) : ForGo (Itr lo n) g tb D σ H := for_range Pv h0 hs hd
theorem ForGo.list {a : Addr} {xs : List V} (Pv : Nat → L2.St → Hp → Prop) (h0 : Pv 0 σ H) (hl : ∀ i σ H, i ≤ xs.length → Pv i σ H → SqL K H a xs)
    (hs : ∀ i x σ H, xs[i]? = some x → Pv i σ H → g x σ H fun σ2 H2 => tb { D with nx := Pv (i + 1), ct := Pv (i + 1), bk := D.nx } σ2 H2) (hd : ∀ σ H, Pv xs.length σ H → D.nx σ H) : ForGo (Itl K a) g tb D σ H := for_list Pv h0 hl hs hd
theorem LcGo.range {lo : Int} {n : Nat} {D : Addr} (Pv : Nat → Hp → Prop) (h0 : Pv 0 (upd H D (.lst [])))
    (hs : ∀ i H, i < n → Pv i H → g (.int (lo + i)) (wipe σ vs) H fun σ2 H2 => wipe σ2 vs = wipe σ vs ∧ tt σ2 H2 fun b H3 =>
      if b = true then te σ2 H3 fun y H4 => ∃ acc, H4 D = some (.lst acc) ∧ acc.length < sizeLine ∧ Pv (i + 1) (upd H4 D (.lst (acc ++ [y]))) else Pv (i + 1) H3) (hd : ∀ H, Pv n H → Q (.ref D) H) : LcGo (Itr lo n) g tt te vs σ H D Q := L2.lc_range (lo := lo) (n := n) Pv h0 hs hd
theorem LcGo.list {a D : Addr} {xs : List V} (Pv : Nat → Hp → Prop) (h0 : Pv 0 (upd H D (.lst []))) (hl : ∀ i H, i ≤ xs.length → Pv i H → SqL K H a xs)
    (hs : ∀ i x H, xs[i]? = some x → Pv i H → g x (wipe σ vs) H fun σ2 H2 => wipe σ2 vs = wipe σ vs ∧ tt σ2 H2 fun b H3 =>
      if b = true then te σ2 H3 fun y H4 => ∃ acc, H4 D = some (.lst acc) ∧ acc.length < sizeLine ∧ Pv (i + 1) (upd H4 D (.lst (acc ++ [y]))) else Pv (i + 1) H3) (hd : ∀ H, Pv xs.length H → Q (.ref D) H) : LcGo (Itl K a) g tt te vs σ H D Q := L2.lc_list Pv h0 hl hs hd
theorem LcGo.str {z : Str} {D : Addr} (Pv : Nat → Hp → Prop) (h0 : Pv 0 (upd H D (.lst [])))
    (hs : ∀ i c H, z.cps[i]? = some c → Pv i H → g (.str ⟨#[c]⟩) (wipe σ vs) H fun σ2 H2 => wipe σ2 vs = wipe σ vs ∧ tt σ2 H2 fun b H3 =>
      if b = true then te σ2 H3 fun y H4 => ∃ acc, H4 D = some (.lst acc) ∧ acc.length < sizeLine ∧ Pv (i + 1) (upd H4 D (.lst (acc ++ [y]))) else Pv (i + 1) H3) (hd : ∀ H, Pv z.cps.size H → Q (.ref D) H) : LcGo (Its z) g tt te vs σ H D Q := by
  refine ⟨fun i m H => m = z.cps.size - i ∧ i ≤ z.cps.size ∧ Pv i H, ⟨z.cps.size, by simp, Nat.zero_le _, h0⟩, ?_⟩
  rintro i m H ⟨rfl, hi, p⟩
  by_cases hlt : i < z.cps.size
  · refine .inr ⟨hlt, Pv (i + 1), fun H' p' => ⟨z.cps.size - (i + 1), by omega, rfl, hlt, p'⟩, fun x H' y => ?_⟩
    obtain ⟨e, c, hc, rfl⟩ := y
    subst e
    exact hs i c _ hc p
  · have e : i = z.cps.size := by omega
    subst e
    exact .inl ⟨Nat.le_refl _, hd H p⟩
end
end BK

namespace BK
open PySem PySem.Spec PyProof.Rows L2

/-! ## del xs[a:] -/
theorem keep_from {α : Type} (a : Nat) : ∀ (xs : List α) (j n : Nat), xs.length + j ≤ n → (xs.zipIdx j).filterMap (fun (p : α × Nat) => if (decide (a ≤ p.2) && decide (p.2 < n)) = true then none else some p.1) = xs.take (a - j)
  | [], j, n, _ => by simp
  | x :: r, j, n, h => by
    rw [List.zipIdx_cons, List.filterMap_cons]
    have hn : j < n := by simp at h; omega
    have ih := keep_from a r (j + 1) n (by simp at h; omega)
    by_cases hj : a ≤ j
    · simp only [hj, hn, decide_true, Bool.and_self, if_true]
      rw [ih, show a - j = 0 by omega, show a - (j + 1) = 0 by omega]
      simp
    · simp only [hj, decide_false, Bool.false_and, Bool.false_eq_true, if_false]
      rw [ih, show a - j = (a - (j + 1)) + 1 by omega, List.take_succ_cons]
theorem pick_take {sel : Nat → Bool} {a n : Nat} (hs : ∀ k, sel k = (decide (a ≤ k) && decide (k < n))) (its : List Value) (hn : its.length = n) :
    (its.toArray.toList.zipIdx.filterMap fun (x : Value × Nat) => if sel x.2 = true then none else some x.1).toArray = (its.take a).toArray := by
  have e : (fun (x : Value × Nat) => if sel x.2 = true then none else some x.1) = fun (x : Value × Nat) => if (decide (a ≤ x.2) && decide (x.2 < n)) = true then none else some x.1 := funext fun x => by rw [hs]
  rw [e, show its.toArray.toList = its by simp, keep_from a its 0 n (by omega), Nat.sub_zero]
section
variable {prog : Program} {w : World} {A : Around} {E : Value → Shared → Prop} {s : Shared}
set_option maxRecDepth 100000 in
/-- a list's slice without end and step, deleted -/
theorem delItem_from {l sl : Addr} {its : List Value} {n : Nat} {vl : Value} {lo : Option Int} {Q : Unit → Shared → Prop}
    (e : s.heap.get? l = some { cls := .type "list", data := .seq its.toArray n })
    (hs : s.heap.IsSliceOf sl vl .none .none) (pl : IsPart vl lo) (hsz : its.length ≤ sizeLine)
    (h : ∀ f : Array Value → Array Value, f its.toArray = (its.take (HT.sIx its.length 0 lo)).toArray → Q () { s with heap := s.heap.update l (Obj.mapSeq f) }) :
    wpAny (model prog w) A (delItem (.ref l) (.ref sl)) Q E s := by
  have hl : s.heap.IsList l its.toArray := PySem.IsL.isList e
  obtain ⟨os, hos, hcs, hds⟩ := id hs
  have hTs : s.TypeIs (.ref sl) "slice" := ⟨os, hos, hcs⟩
  have hstep : ¬ ((rawPart none == rawInt 0) = true) := Bool.false_ne_true
  refine wpAny_delItem_slot hl.typeIs (by decide) PySem.F.slot_list_delitem ?_
  refine wpAny_call_entry PySem.F.slot_list_delitem hl.typeIs PySem.F.entry_list_delitem ?_ (PySem.F.args_list_delitem_2 _ _)
  refine wpAny_bind (m := slotArgs "__delitem__" 1 _) (wpAny_pure ?_)
  refine wpAny_bind (m := Builtin.List.listSubscript? (.ref sl)) ?_
  unfold Builtin.List.listSubscript?
  refine wpAny_bind (wpAny_specialOf hTs slice_no_index ?_)
  simp only [Option.isNone_none, if_true]
  refine wpAny_pure ?_
  show wpAny _ _ (typeOf (.ref sl) >>= _) _ _ s
  refine wpAny_bind (wpAny_typeOf hTs ?_)
  first
    | rw [if_neg (by decide)]
    | refine PySem.W.KFB.if_not (by decide) ?_
  rw [listSliceParts_eq]
  refine wpAny_bind (wpAny_bind (wpAny_field hos hds (x := .none) rfl (wpAny_bind (wpAny_listPart .none ?_))))
  rw [if_neg hstep]
  refine wpAny_bind (wpAny_field hos hds (x := vl) rfl (wpAny_bind (wpAny_listPart pl ?_)))
  refine wpAny_bind (wpAny_field hos hds (x := .none) rfl (wpAny_bind (wpAny_listPart .none (wpAny_pure ?_))))
  refine wpAny_bind (m := Builtin.List.listItems (.ref l)) ?_
  unfold Builtin.List.listItems
  refine wpAny_bind (wpAny_seqItems e rfl (wpAny_pure ?_))
  have hb : sliceBounds lo none none its.toArray.size = (((HT.sIx its.length 0 lo : Nat) : Int), (((its.length : Nat) : Int), (1 : Int))) := by
    obtain ⟨h1, h2, h3⟩ := slice_bounds lo none its.toArray.size
    have e1 : its.toArray.size = its.length := List.size_toArray
    rw [e1] at h1 h2 h3 ⊢
    have h2' : (sliceBounds lo none none its.length).2.1 = ((its.length : Nat) : Int) := by rw [h2]; rfl
    exact Prod.ext h1 (Prod.ext h2' h3)
  refine wpAny_bind (wpAny_of_eq ((sliceIndices_raw lo none none its.toArray.size (by simp)).trans (congrArg (pure : Int × Int × Int → Sem (Int × Int × Int)) hb)) ?_)
  refine wpAny_bind (m := rule "list.__delitem__.slice") (wpAny_rule ?_)
  have pk := fun (sel : Nat → Bool) hs => pick_take (sel := sel) (a := HT.sIx its.length 0 lo) (n := its.length) hs its rfl
  refine wpAny_bind (m := updateSeq l _) (wpAny_updateSeq (hz := by rw [List.size_toArray]; exact hsz) (_hz' := ?_) e rfl ?_)
  rotate_left
  · refine Nat.le_trans (Nat.le_of_eq (congrArg Array.size (pk _ fun k => ?_))) ?_
    · show (decide (((HT.sIx its.length 0 lo : Nat) : Int) ≤ (k : Int)) && decide ((k : Int) < ((its.length : Nat) : Int)) && (((k : Int) - ((HT.sIx its.length 0 lo : Nat) : Int)) % 1 == 0)) = _
      rw [Int.emod_one]
      simp
    · rw [List.size_toArray, List.length_take]
      omega
  refine wpAny_bind (wpAny_letGo ?_)
  refine wpAny_pure ⟨_, rfl, h _ (pk _ fun k => ?_)⟩
  show (decide (((HT.sIx its.length 0 lo : Nat) : Int) ≤ (k : Int)) && decide ((k : Int) < ((its.length : Nat) : Int)) && (((k : Int) - ((HT.sIx its.length 0 lo : Nat) : Int)) % 1 == 0)) = _
  rw [Int.emod_one]
  simp
end
section
variable {X : Cx}
theorem del_slice {pins : List (Addr × Obj)} {s : Shared} {σ : L2.St} {H : Hp} {l sl : Addr} {xs : List V} {vl : Value} {lo : Option Int} {Q : Unit → Shared → Prop} (I : L2.Inv X pins σ H s)
    (hH : H l = some (.lst xs)) (hs : s.heap.IsSliceOf sl vl .none .none) (pl : IsPart vl lo)
    (h : ∀ s', L2.Inv X pins σ (upd H l (.lst (xs.take (HT.sIx xs.length 0 lo)))) s' → Q () s') :
    wpAny (model X.prog X.w) X.A (delItem (.ref l) (.ref sl)) Q X.xe s := by
  obtain ⟨z, its, n, r, hl, e⟩ := I.lstM hH
  refine delItem_from e hs pl (by omega) fun f hf => h _ ?_
  refine I.lset (its' := its.take (HT.sIx its.length 0 lo)) (t' := s.toks) hH e hf (by rw [← hl]; exact r.take _) ?_
  rw [List.length_take]
  omega
/-- del xs[a:] of a list -/
def tDelS (to : TE) (tl : TO) : TS := fun D σ H => to σ H fun x H1 => tl σ H1 fun lo H2 => ∃ (l : Addr) (xs : List V), x = .ref l ∧ H2 l = some (.lst xs) ∧ D.nx σ (upd H2 l (.lst (xs.take (HT.sIx xs.length 0 lo))))
theorem ps_delS {o : Expr} {lo : Option Expr} {to : TE} {tl : TO} {p2 tpos pos : Pos} (ho : PE X o to) (hl : PO X lo tl) : PS X (.Delete [.Subscript o (.Slice lo none none p2) tpos] pos) (tDelS to tl) := by
  refine ⟨fun pins s σ H D I h => ?_⟩
  refine wpAny_Delete (wpAny_deleteEach_cons (wpAny_delete_Subscript (thn (ho.run pins s σ H _ I h) fun u s1 ⟨x, H1, I1, rx, q1⟩ => ?_)))
  refine wpAny_Slice (thn (hl.run pins s1 σ H1 _ I1 q1) fun vl s2 ⟨l, H2, I2, pl, q2⟩ => ?_)
  rw [evalPart_none]
  refine wpAny_pure ?_
  refine wpAny_pure ?_
  obtain ⟨b, xs, ex, hH, q2⟩ := q2
  subst ex
  cases (show u = Value.ref b from rx)
  have I4 : L2.Inv X pins σ H2 { s2 with heap := s2.heap.push { cls := .type "slice", data := .fields #[vl, .none, .none] } } := I2.kept (t' := s2.toks) fun b ob q => Heap.get?_push_of_some _ q
  exact del_slice I4 hH (Heap.IsSliceOf.new ..) pl fun s3 I3 => wpAny_deleteEach_nil ⟨σ, _, I3, q2⟩
end
end BK

namespace BK
open PySem PySem.Spec PyProof.Rows L2 Builtin Builtin.Str

/-! ### texts as lists of codes -/
def tx (w : List Nat) : Str := ⟨w.toArray⟩
theorem tx_cps (w : List Nat) : (tx w).cps.toList = w := by unfold tx; simp
theorem tx_len (w : List Nat) : (tx w).length = w.length := by unfold tx; simp [Str.length]
theorem tx_inj {a b : List Nat} (h : tx a = tx b) : a = b := by
  have := congrArg (fun z : Str => z.cps.toList) h
  simpa [tx_cps] using this
theorem tx_of (z : Str) : tx z.cps.toList = z := Str.ext' (by unfold tx; simp)
theorem tx_ext {z : Str} {w : List Nat} (h : z.cps.toList = w) : z = tx w := by rw [← h, tx_of]
theorem tx_app (a b : List Nat) : tx a ++ tx b = tx (a ++ b) := tx_ext (by rw [Str.cps_append, Array.toList_append, tx_cps, tx_cps])
theorem tx_eq (a b : List Nat) : (V.str (tx a) = V.str (tx b)) ↔ a = b := ⟨fun h => tx_inj (V.str.inj h), fun h => by rw [h]⟩
theorem tx_one (c : Nat) : tx [c] = ⟨#[c]⟩ := rfl
theorem tx_nil : tx [] = "" := rfl

theorem cut_nn (w : List Nat) (i j : Nat) : cutS (tx w) (some (i : Int)) (some (j : Int)) = tx ((w.drop i).take (j - i)) := by
  refine tx_ext ?_
  unfold cutS
  rw [HT.sIx_nat, HT.sIx_nat, tx_cps, tx_len, List.toList_toArray]
  by_cases hi : i ≤ w.length
  · rw [Nat.min_eq_left hi]
    by_cases hj : j ≤ w.length
    · rw [Nat.min_eq_left hj]
    · rw [Nat.min_eq_right (by omega), List.take_of_length_le (by rw [List.length_drop]; omega), List.take_of_length_le (by rw [List.length_drop]; omega)]
  · rw [Nat.min_eq_right (show w.length ≤ i by omega), List.drop_length, List.drop_eq_nil_of_le (by omega), List.take_nil, List.take_nil]
theorem cut_n_ (w : List Nat) (i : Nat) : cutS (tx w) (some (i : Int)) none = tx (w.drop i) := by
  refine tx_ext ?_
  unfold cutS
  rw [HT.sIx_nat, HT.sIx_none, tx_cps, tx_len, List.toList_toArray]
  by_cases hi : i ≤ w.length
  · rw [Nat.min_eq_left hi, List.take_of_length_le (by rw [List.length_drop]; omega)]
  · rw [Nat.min_eq_right (by omega), List.drop_length, List.drop_eq_nil_of_le (by omega), List.take_nil]
theorem cut__n (w : List Nat) (j : Nat) : cutS (tx w) none (some (j : Int)) = tx (w.take j) := by
  refine tx_ext ?_
  unfold cutS
  rw [HT.sIx_nat, HT.sIx_none, tx_cps, tx_len, List.toList_toArray, List.drop_zero, Nat.sub_zero]
  by_cases hj : j ≤ w.length
  · rw [Nat.min_eq_left hj]
  · rw [Nat.min_eq_right (by omega), List.take_of_length_le (Nat.le_refl _), List.take_of_length_le (by omega)]

theorem foldl_app (l : List (List Nat)) : ∀ acc : Array Nat, ((l.map List.toArray).foldl (· ++ ·) acc).toList = acc.toList ++ l.flatten := by
  induction l with
  | nil => intro acc; simp
  | cons a l ih =>
    intro acc
    rw [List.map_cons, List.foldl_cons, ih, Array.toList_append, List.toList_toArray, List.flatten_cons, List.append_assoc]
theorem mul_tx (w : List Nat) (n : Nat) : Txt.mul (tx w) (n : Int) = tx (List.replicate n w).flatten := by
  refine tx_ext ?_
  unfold Txt.mul
  split
  · have : n = 0 := by omega
    subst this
    rfl
  · split
    · rename_i h1 h2
      rw [Bool.or_eq_true] at h2
      rcases h2 with h2 | h2
      · have : n = 1 := by have := eq_of_beq h2; omega
        subst this
        rw [tx_cps]
        simp
      · have : w = [] := by
          have := eq_of_beq h2
          rw [tx_len] at this
          exact List.eq_nil_of_length_eq_zero this
        subst this
        rw [tx_cps]
        simp
    · rw [Int.toNat_natCast]
      have e : List.replicate n (tx w).cps = (List.replicate n w).map List.toArray := by rw [List.map_replicate]; rfl
      show (List.foldl (· ++ ·) #[] (List.replicate n (tx w).cps)).toList = _
      rw [e, foldl_app]
      simp
theorem mul_ok {w : List Nat} {n : Nat} (L N : Nat) (h : w.length ≤ L) (hn : n ≤ N) (hN : N ≤ 16777216) (hL : L * N ≤ 16777216) : MulOk (tx w) (n : Int) :=
  mulOk_of L N (by rw [tx_len]; exact h) (by omega) (by omega) hN hL

theorem join_go : ∀ (ws : List (List Nat)) (acc : Array Nat), ((ws.map tx).foldl (fun acc p => acc ++ (tx []).cps ++ p.cps) acc).toList = acc.toList ++ ws.flatten
  | [], acc => by simp
  | a :: l, acc => by
    rw [List.map_cons, List.foldl_cons, join_go l, Array.toList_append, Array.toList_append, tx_cps, List.flatten_cons, tx_cps, List.append_nil, List.append_assoc]
theorem join_tx (ws : List (List Nat)) : Txt.join (tx []) (ws.map tx) = tx ws.flatten := by
  refine tx_ext ?_
  show (glued (tx []) (ws.map tx)).cps.toList = _
  unfold glued
  cases ws with
  | nil => rfl
  | cons a l =>
    show (((l.map tx)).foldl (fun acc p => acc ++ (tx []).cps ++ p.cps) (tx a).cps).toList = _
    rw [join_go, tx_cps, List.flatten_cons]

/-! ### how many of one sign -/
theorem sub_one (w : List Nat) (c i : Nat) : (i + (tx [c]).length ≤ (tx w).length ∧ subAt (tx w) (tx [c]) i = true) ↔ w[i]? = some c := by
  have h := StrLaws.subAt_one (tx w) c i
  rw [tx_cps] at h
  exact h
theorem occ_run (w : List Nat) (c : Nat) : ∀ (n i : Nat) (st : Array Nat × Nat), st.2 ≤ i → st.1.size ≤ i → i ≤ w.length →
    (forIn (List.range' i n) st (StrLaws.occBody (tx w) (tx [c]) (tx w).length ((tx w).length + 1))).run.1.size = st.1.size + ((w.drop i).take n).count c
  | 0, i, st, h1, h2, h3 => by simp
  | n + 1, i, st, h1, h2, h3 => by
    rw [List.range'_succ, List.forIn_cons]
    unfold StrLaws.occBody
    have hs := sub_one w c i
    by_cases hc : w[i]? = some c
    · have hq := hs.mpr hc
      have hlt : i < w.length := (List.getElem?_eq_some_iff.mp hc).1
      rw [if_pos ⟨⟨⟨by rw [tx_len]; omega, h1⟩, hq.1⟩, hq.2⟩]
      have ih := occ_run w c n (i + 1) (st.1.push i, i + (tx [c]).length) (by rw [tx_len]; exact Nat.le_refl _) (by rw [Array.size_push]; omega) hlt
      refine ih.trans ?_
      rw [Array.size_push, List.drop_eq_getElem_cons hlt, List.take_succ_cons, List.count_cons]
      have e : w[i] = c := (List.getElem?_eq_some_iff.mp hc).2
      rw [e, beq_self_eq_true, if_pos rfl]
      omega
    · rw [if_neg (fun z => hc (hs.mp ⟨z.1.2, z.2⟩))]
      by_cases hlt : i < w.length
      · have ih := occ_run w c n (i + 1) (st.1, st.2) (by show st.2 ≤ i + 1; omega) (by show st.1.size ≤ i + 1; omega) hlt
        refine ih.trans ?_
        rw [List.drop_eq_getElem_cons hlt, List.take_succ_cons, List.count_cons]
        have e : w[i] ≠ c := fun z => hc (by rw [List.getElem?_eq_getElem hlt, z])
        rw [beq_eq_false_iff_ne.mpr e, if_neg Bool.false_ne_true, Nat.add_zero]
        all_goals rfl
      · have e0 : ∀ (m j : Nat) (st : Array Nat × Nat), w.length ≤ j → (forIn (List.range' j m) st (StrLaws.occBody (tx w) (tx [c]) (tx w).length ((tx w).length + 1))).run.1.size = st.1.size := by
          intro m
          induction m with
          | zero => intro j st _; rfl
          | succ m ih =>
            intro j st hj
            rw [List.range'_succ, List.forIn_cons]
            unfold StrLaws.occBody
            rw [if_neg (fun z => by have := (sub_one w c j).mp ⟨z.1.2, z.2⟩; rw [List.getElem?_eq_none hj] at this; cases this)]
            exact ih (j + 1) (st.1, st.2) (by omega)
        refine (e0 n (i + 1) (st.1, st.2) (by omega)).trans ?_
        rw [List.drop_eq_nil_of_le (by omega), List.take_nil, List.count_nil, Nat.add_zero]
theorem count_tx (w : List Nat) (c : Nat) : Txt.count (tx w) (tx [c]) = (w.count c : Nat) := by
  unfold Txt.count
  rw [StrLaws.occ_eq, Array.length_toList]
  have h := occ_run w c ((tx w).length + 1 - 0) 0 (#[], 0) (Nat.le_refl _) (Nat.le_refl _) (Nat.zero_le _)
  rw [h, List.drop_zero, List.take_of_length_le (by rw [tx_len]; omega)]
  simp

/-! ### strip of signs -/
theorem takeWhile_all {p : Nat → Bool} : ∀ {l : List Nat}, l.all p = true → l.takeWhile p = l
  | [], _ => rfl
  | a :: l, h => by
    rw [List.all_cons, Bool.and_eq_true] at h
    rw [List.takeWhile_cons, if_pos h.1, takeWhile_all h.2]
theorem takeWhile_len {p : Nat → Bool} : ∀ (l : List Nat), l.all p = false → ∃ x, l[(l.takeWhile p).length]? = some x ∧ p x = false
  | [], h => by simp at h
  | a :: l, h => by
    rw [List.takeWhile_cons]
    by_cases ha : p a = true
    · rw [List.all_cons, ha, Bool.true_and] at h
      rw [if_pos ha]
      obtain ⟨x, h1, h2⟩ := takeWhile_len l h
      exact ⟨x, by rw [List.length_cons, List.getElem?_cons_succ]; exact h1, h2⟩
    · rw [if_neg ha]
      exact ⟨a, rfl, Bool.eq_false_iff.mpr ha⟩
theorem strip_iff (w y : List Nat) : (Txt.stripChars (tx w) (tx y) = tx []) ↔ w.all (y.contains ·) = true := by
  have hp : ∀ c, (tx y).cps.contains c = y.contains c := fun c => by unfold tx; simp
  have hp' : (tx y).cps.contains = fun c => y.contains c := funext hp
  unfold Txt.stripChars Txt.stripBy
  rw [hp']
  have hlo : stripLo (fun c => y.contains c) true (tx w) = (w.takeWhile fun c => y.contains c).length := by
    unfold stripLo
    rw [if_pos rfl, tx_cps]
  cases hall : w.all (y.contains ·) with
  | true =>
    have e := takeWhile_all (p := fun c => y.contains c) hall
    rw [e] at hlo
    refine ⟨fun _ => rfl, fun _ => ?_⟩
    by_cases hs : stripSame (fun c => y.contains c) true true (tx w) = true
    · rw [if_pos hs]
      unfold stripSame at hs
      rw [Bool.and_eq_true] at hs
      rw [hlo] at hs
      have : w.length = 0 := eq_of_beq hs.1
      rw [List.eq_nil_of_length_eq_zero this]
    · rw [if_neg hs]
      refine tx_ext ?_
      unfold stripped
      rw [hlo, StrLaws.strSub_toList, tx_cps, List.drop_length, List.take_nil]
  | false =>
    refine ⟨fun h => ?_, fun h => by cases h⟩
    exfalso
    obtain ⟨x, hx, hpx⟩ := takeWhile_len (p := fun c => y.contains c) w hall
    by_cases hs : stripSame (fun c => y.contains c) true true (tx w) = true
    · rw [if_pos hs] at h
      have : w = [] := tx_inj h
      subst this
      simp at hall
    · rw [if_neg hs] at h
      have h2 := congrArg (fun z : Str => z.cps.toList) h
      unfold stripped at h2
      simp only [StrLaws.strSub_toList, tx_cps, hlo] at h2
      have hlt : (w.takeWhile fun c => y.contains c).length < w.length := (List.getElem?_eq_some_iff.mp hx).1
      -- the right end lies behind x
      have hhi : (w.takeWhile fun c => y.contains c).length < stripHi (fun c => y.contains c) true (tx w) (w.takeWhile fun c => y.contains c).length := by
        unfold stripHi
        rw [if_pos rfl, tx_cps, tx_len]
        have hne : ((w.drop (w.takeWhile fun c => y.contains c).length).reverse).all (fun c => y.contains c) = false := by
          rw [List.all_reverse, List.drop_eq_getElem_cons hlt, List.all_cons]
          have e : w[(w.takeWhile fun c => y.contains c).length] = x := (List.getElem?_eq_some_iff.mp hx).2
          rw [e, hpx, Bool.false_and]
        obtain ⟨z, hz, _⟩ := takeWhile_len (p := fun c => y.contains c) _ hne
        have hl2 := (List.getElem?_eq_some_iff.mp hz).1
        rw [List.length_reverse, List.length_drop] at hl2
        omega
      have h3 := congrArg List.length h2
      rw [List.length_take, List.length_drop] at h3
      have hz : ([] : List Nat).length = 0 := rfl
      have hk : 0 < stripHi (fun c => y.contains c) true (tx w) (w.takeWhile fun c => y.contains c).length - (w.takeWhile fun c => y.contains c).length := by omega
      have h4 : (tx ([] : List Nat)).cps.toList.length = 0 := rfl
      have h5 : min (stripHi (fun c => y.contains c) true (tx w) (w.takeWhile fun c => y.contains c).length - (w.takeWhile fun c => y.contains c).length) (w.length - (w.takeWhile fun c => y.contains c).length) = 0 := h3
      omega
end BK

namespace BK
open PySem PySem.Spec PyProof.Rows L2

/-! ## list(text) -/
section
variable {X : Cx}
theorem signs_vals {x : Str} {acc : Array Value} (h : ItemsOf (SignAt x) acc x.cps.size) : Vals (x.cps.toList.map fun c => V.str (tx [c])) acc.toList := by
  refine vals_of_at ?_ fun j y u h1 h2 => ?_
  · rw [List.length_map, Array.length_toList, Array.length_toList, h.1]
  · obtain ⟨c, t, e1, e2⟩ := h.2 j u (by rw [← Array.getElem?_toList]; exact h2)
    rw [List.getElem?_map, Array.getElem?_toList, e1] at h1
    cases h1
    exact ⟨t, e2⟩
theorem call_listS (hc : X.calm = true) : CallR X (.type "list") (fun xs H Q => ∃ x : Str, xs = [.str x] ∧ x.cps.size ≤ sizeLine ∧ ∀ p, H p = none → Q (.ref p) (upd H p (.lst (x.cps.toList.map fun c => V.str (tx [c]))))) := by
  intro pins s σ H xs us Q I r h
  obtain ⟨x, e, hz, q⟩ := h
  subst e
  obtain ⟨u, eu, rx⟩ := vals1 r
  subst eu
  obtain ⟨t, rfl⟩ := rx
  refine call_list_str (I.ok.hd hc) x t (fun h' tk acc c' hk hD hacc => ?_) hz
  refine ⟨.ref s.heap.objs.size, upd H s.heap.objs.size (.lst (x.cps.toList.map fun c => V.str (tx [c]))), I.laid (t' := tk) hk (Nat.le_refl _)
    (show ObjOk X.prog X.w _ _ _ (.lst (x.cps.toList.map fun c => V.str (tx [c]))) from ⟨by rw [List.length_map, Array.length_toList]; exact hz, acc.toList, c', signs_vals hacc, by rw [Array.toArray_toList]; exact hD⟩), rfl, q _ (I.hok.fresh (Nat.le_refl _))⟩
end

/-! ## a dict of the module: texts by texts -/
def dtx (e : DictEntry) : Option (Str × Str) := match e.key, e.val with
  | .str x _, .str y _ => some (x, y)
  | _, _ => none
structure SDict (K : PySem.W.Frag) (w : World) (mg : Str → Option Value) (x : Str) (ps : List (Str × Str)) : Type where
  d : Addr
  es : Array DictEntry
  n : Nat
  g : mg x = some (.ref d)
  k : KDict K w d es n
  e : es.toList.map dtx = ps.map some
theorem dtx_find (z : Str) : ∀ (es : List DictEntry) (ps : List (Str × Str)), es.map dtx = ps.map some →
    (ps.lookup z = none → es.find? (·.key.isStr z) = none ∧ es.any (·.refKey) = false) ∧ (∀ y, ps.lookup z = some y → ∃ e t, es.find? (·.key.isStr z) = some e ∧ e.val = .str y t)
  | [], [], _ => ⟨fun _ => ⟨rfl, rfl⟩, fun y h => by cases h⟩
  | [], _ :: _, h => by cases h
  | _ :: _, [], h => by cases h
  | e :: es, p :: ps, h => by
    obtain ⟨h1, h2⟩ := List.cons.inj h
    have ih := dtx_find z es ps h2
    obtain ⟨a, b⟩ := p
    unfold dtx at h1
    split at h1
    · rename_i x t y t2 k1 k2
      have e3 := Option.some.inj h1
      obtain ⟨rfl, rfl⟩ := Prod.mk.inj e3
      have hk : e.key.isStr z = (x == z) := by rw [k1]; rfl
      have hr : e.refKey = false := by unfold DictEntry.refKey; rw [k1]
      by_cases hz : z = x
      · subst hz
        refine ⟨fun hh => ?_, fun y' hy => ?_⟩
        · rw [List.lookup_cons_self] at hh
          cases hh
        · rw [List.lookup_cons_self] at hy
          cases hy
          refine ⟨e, t2, ?_, k2⟩
          rw [List.find?_cons, hk]
          simp
      · have hb : (z == x) = false := beq_eq_false_iff_ne.mpr hz
        have hb2 : (x == z) = false := beq_eq_false_iff_ne.mpr fun q => hz q.symm
        refine ⟨fun hh => ?_, fun y' hy => ?_⟩
        · rw [List.lookup_cons, hb] at hh
          obtain ⟨i1, i2⟩ := ih.1 hh
          rw [List.find?_cons, hk, hb2, List.any_cons, hr]
          exact ⟨i1, i2⟩
        · rw [List.lookup_cons, hb] at hy
          obtain ⟨e', t', i1, i2⟩ := ih.2 y' hy
          refine ⟨e', t', ?_, i2⟩
          rw [List.find?_cons, hk, hb2]
          exact i1
    · cases h1
theorem SDict.none {K : PySem.W.Frag} {w : World} {mg : Str → Option Value} {x : Str} {ps : List (Str × Str)} (D : SDict K w mg x ps) {z : Str} (h : ps.lookup z = .none) : PySem.W.nsIn K D.d z = some .none := by
  obtain ⟨h1, h2⟩ := (dtx_find z _ _ D.e).1 h
  unfold PySem.W.nsIn
  rw [D.k.at_]
  dsimp only
  rw [h1]
  dsimp only
  rw [h2]
  rfl
theorem SDict.some {K : PySem.W.Frag} {w : World} {mg : Str → Option Value} {x : Str} {ps : List (Str × Str)} (D : SDict K w mg x ps) {z y : Str} (h : ps.lookup z = .some y) : ∃ t, PySem.W.nsIn K D.d z = some (.some (.str y t)) := by
  obtain ⟨e, t, h1, h2⟩ := (dtx_find z _ _ D.e).2 y h
  refine ⟨t, ?_⟩
  unfold PySem.W.nsIn
  rw [D.k.at_]
  dsimp only
  rw [h1]
  dsimp only
  rw [h2]
section
variable {X : Cx} {x : Str} {ps : List (Str × Str)}
theorem pe_sd {pos : Pos} (D : SDict X.K X.w X.mg x ps) (hg : Gl X x) (hd : (x == ("__debug__" : Str)) = false) : PE X (.Name x pos) (tC (.ref D.d)) := pe_glob hg D.g rfl hd
theorem op_in_sd (D : SDict X.K X.w X.mg x ps) : OpR X (compareOp .In) (fun a b H Q => ∃ z : Str, a = .str z ∧ b = .ref D.d ∧ Q (.bl (ps.lookup z).isSome) H) := by
  intro pins s σ H a b v u Q I rx ry h
  obtain ⟨z, e1, e2, q⟩ := h
  cases hl : ps.lookup z with
  | none =>
    rw [hl] at q
    exact op_in_kd D.k pins s σ H a b v u Q I rx ry ⟨z, .none, e1, e2, D.none hl, q⟩
  | some y =>
    rw [hl] at q
    obtain ⟨t, e⟩ := D.some hl
    exact op_in_kd D.k pins s σ H a b v u Q I rx ry ⟨z, _, e1, e2, e, q⟩
def oV : Option Str → V
  | none => .non
  | some y => .str y
def tSGet (d : Addr) (ps : List (Str × Str)) (to te : TE) : TE := fun σ H Q => to σ H fun x H1 => x = .ref d ∧ te σ H1 fun y H2 => ∃ z : Str, y = .str z ∧ Q (oV (ps.lookup z)) H2
theorem pe_sget {o e : Expr} {to te : TE} {apos cpos : Pos} (D : SDict X.K X.w X.mg x ps) (ho : PE X o to) (he : PE X e te) (m : M1 X o "get" apos e cpos) : PE X (.Call (.Attribute o "get" apos) [e] [] cpos) (tSGet D.d ps to te) := by
  refine ⟨fun pins s σ H Q I h => ?_⟩
  refine wpAny_Call_method m.base m.few m.line PySem.F.plainAttrs_dict PySem.F.slot_dict_get PySem.F.type_dict_get (thn (ho.run pins s σ H _ I h) fun u s1 ⟨x, H1, I1, rx, ex, q1⟩ => ?_)
  subst ex
  obtain rfl : u = Value.ref D.d := rx
  have hm0 := PySem.W.mapOf_K (prog := X.prog) (w := X.w) I1.kIn D.k.at_ D.k.lit
  refine ⟨hm0.typeIs, fun b e => ?_, ?_⟩
  · cases e
    exact ⟨_, I1.kIn _ _ D.k.at_, rfl⟩
  rw [m.trees]
  refine wpAny_dict_get1 (knd := PySem.strKind X.prog X.w) D.k.low (thn (he.run pins s1 σ H1 _ I1 q1) fun iv s2 ⟨y, H2, I2, ry, z, ey, q2⟩ => ?_)
  subst ey
  obtain ⟨t, rfl⟩ := ry
  refine ⟨z, _, PySem.strKind_is X.prog X.w z t, PySem.W.mapOf_K (prog := X.prog) (w := X.w) I2.kIn D.k.at_ D.k.lit, ?_⟩
  cases hl : ps.lookup z with
  | none =>
    rw [PySem.W.find_K D.k.at_ (D.none hl)]
    rw [hl] at q2
    exact ⟨.non, H2, I2.tok _, rfl, q2⟩
  | some y =>
    obtain ⟨t2, e⟩ := D.some hl
    rw [PySem.W.find_K D.k.at_ e]
    rw [hl] at q2
    exact ⟨.str y, H2, I2.tok _, ⟨t2, rfl⟩, q2⟩
end
theorem SDict.at {K : PySem.W.Frag} {w : World} {mg : Str → Option Value} {x : Str} {ps : List (Str × Str)} (D : SDict K w mg x ps) {z y : Str} (h : ps.lookup z = .some y) : KDct K w D.d z (.str y) := by
  obtain ⟨t, e⟩ := D.some h
  exact ⟨D.es, D.n, _, D.k.at_, D.k.lit, e, t, rfl⟩
/-! ## a dict of the module: texts by numbers -/
def dti (e : DictEntry) : Option (Str × Int) := match e.key, e.val with
  | .str x _, .int y _ => some (x, y)
  | _, _ => none
structure IDict (K : PySem.W.Frag) (w : World) (mg : Str → Option Value) (x : Str) (ps : List (Str × Int)) : Type where
  d : Addr
  es : Array DictEntry
  n : Nat
  g : mg x = some (.ref d)
  k : KDict K w d es n
  e : es.toList.map dti = ps.map some
theorem dti_find (z : Str) (y : Int) : ∀ (es : List DictEntry) (ps : List (Str × Int)), es.map dti = ps.map some → ps.lookup z = some y → ∃ e t, es.find? (·.key.isStr z) = some e ∧ e.val = .int y t
  | [], [], _, h => by cases h
  | [], _ :: _, h, _ => by cases h
  | _ :: _, [], h, _ => by cases h
  | e :: es, p :: ps, h, hy => by
    obtain ⟨h1, h2⟩ := List.cons.inj h
    obtain ⟨a, b⟩ := p
    unfold dti at h1
    split at h1
    · rename_i x t y' t2 k1 k2
      obtain ⟨rfl, rfl⟩ := Prod.mk.inj (Option.some.inj h1)
      have hk : e.key.isStr z = (x == z) := by rw [k1]; rfl
      by_cases hz : z = x
      · subst hz
        rw [List.lookup_cons_self] at hy
        cases hy
        refine ⟨e, t2, ?_, k2⟩
        rw [List.find?_cons, hk]
        simp
      · have hb : (z == x) = false := beq_eq_false_iff_ne.mpr hz
        have hb2 : (x == z) = false := beq_eq_false_iff_ne.mpr fun q => hz q.symm
        rw [List.lookup_cons, hb] at hy
        obtain ⟨e', t', i1, i2⟩ := dti_find z y es ps h2 hy
        refine ⟨e', t', ?_, i2⟩
        rw [List.find?_cons, hk, hb2]
        exact i1
    · cases h1
theorem IDict.at {K : PySem.W.Frag} {w : World} {mg : Str → Option Value} {x : Str} {ps : List (Str × Int)} (D : IDict K w mg x ps) {z : Str} {y : Int} (h : ps.lookup z = .some y) : KDct K w D.d z (.int y) := by
  obtain ⟨e, t, h1, h2⟩ := dti_find z y _ _ D.e h
  refine ⟨D.es, D.n, .int y t, D.k.at_, D.k.lit, ?_, t, rfl⟩
  unfold PySem.W.nsIn
  rw [D.k.at_]
  dsimp only
  rw [h1]
  dsimp only
  rw [h2]
theorem pe_id {X : Cx} {x : Str} {ps : List (Str × Int)} {pos : Pos} (D : IDict X.K X.w X.mg x ps) (hg : Gl X x) (hd : (x == ("__debug__" : Str)) = false) : PE X (.Name x pos) (tC (.ref D.d)) := pe_glob hg D.g rfl hd
end BK

namespace BK
open PySem PySem.Spec PyProof.Rows L2

/-! ### a word again and again -/
def rep (w : List Nat) (n : Nat) : List Nat := (List.replicate n w).flatten
theorem rep_zero (w : List Nat) : rep w 0 = [] := rfl
theorem rep_succ (w : List Nat) (n : Nat) : rep w (n + 1) = w ++ rep w n := by unfold rep; rw [List.replicate_succ, List.flatten_cons]
theorem rep_len (w : List Nat) : ∀ n, (rep w n).length = n * w.length
  | 0 => by rw [rep_zero]; simp
  | n + 1 => by rw [rep_succ, List.length_append, rep_len w n, Nat.add_mul, Nat.one_mul, Nat.add_comm]
theorem rep_add (w : List Nat) (m : Nat) : ∀ n, rep w (n + m) = rep w n ++ rep w m
  | 0 => by rw [Nat.zero_add, rep_zero, List.nil_append]
  | n + 1 => by rw [show n + 1 + m = (n + m) + 1 by omega, rep_succ, rep_add w m n, rep_succ, List.append_assoc]
theorem rep_get (w : List Nat) : ∀ (n i : Nat), i < n * w.length → (rep w n)[i]? = w[i % w.length]?
  | 0, i, h => by simp at h
  | n + 1, i, h => by
    rw [rep_succ]
    by_cases hi : i < w.length
    · rw [List.getElem?_append_left hi, Nat.mod_eq_of_lt hi]
    · have hn : w.length ≤ i := by omega
      have h2 : i - w.length < n * w.length := by rw [Nat.add_mul, Nat.one_mul] at h; omega
      rw [List.getElem?_append_right hn, rep_get w n _ h2, Nat.mod_eq_sub_mod hn]
theorem rep_count (w : List Nat) (c : Nat) : ∀ n, (rep w n).count c = n * w.count c
  | 0 => by rw [rep_zero]; simp
  | n + 1 => by rw [rep_succ, List.count_append, rep_count w c n, Nat.add_mul, Nat.one_mul, Nat.add_comm]
theorem rep_take {w : List Nat} (hw : w ≠ []) {n m : Nat} (h : m ≤ n * w.length) : (rep w n).take m = rep w (m / w.length) ++ w.take (m % w.length) := by
  have hp : 0 < w.length := List.length_pos_iff.mpr hw
  have hq : m / w.length ≤ n := by
    have := Nat.div_le_div_right (c := w.length) h
    rwa [Nat.mul_div_cancel _ hp] at this
  have e : n = m / w.length + (n - m / w.length) := by omega
  rw [e, rep_add]
  have hm : m = m / w.length * w.length + m % w.length := by rw [Nat.mul_comm]; exact (Nat.div_add_mod m w.length).symm
  rw [List.take_append, rep_len]
  have h1 : List.take m (rep w (m / w.length)) = rep w (m / w.length) := List.take_of_length_le (by rw [rep_len]; exact Nat.div_mul_le_self _ _)
  rw [h1]
  have h2 : m - m / w.length * w.length = m % w.length := by
    omega
  rw [h2]
  congr 1
  have hlt := Nat.mod_lt m hp
  cases hk : n - m / w.length with
  | zero =>
    have h3 : m ≤ m / w.length * w.length := by
      have e3 : n = m / w.length := by omega
      have h4 := h
      rw [e3] at h4
      exact h4
    have h5 : m % w.length = 0 := by omega
    rw [h5, rep_zero, List.take_zero, List.take_zero]
  | succ k => rw [rep_succ, List.take_append_of_le_length (by omega)]
theorem rep_take_count {w : List Nat} (hw : w ≠ []) {n m : Nat} (c : Nat) (h : m ≤ n * w.length) : ((rep w n).take m).count c = w.count c * (m / w.length) + (w.take (m % w.length)).count c := by
  rw [rep_take hw h, List.count_append, rep_count, Nat.mul_comm]

/-! ### texts by pieces -/
abbrev Pcs := List (List Nat × Nat)
def spell (ps : Pcs) : List Nat := (ps.map fun p => rep p.1 p.2).flatten
theorem spell_nil : spell [] = [] := rfl
theorem spell_cons (p : List Nat × Nat) (ps : Pcs) : spell (p :: ps) = rep p.1 p.2 ++ spell ps := by unfold spell; rw [List.map_cons, List.flatten_cons]
theorem spell_app (ps qs : Pcs) : spell (ps ++ qs) = spell ps ++ spell qs := by unfold spell; rw [List.map_append, List.flatten_append]
def size (ps : Pcs) : Nat := (ps.map fun p => p.1.length * p.2).sum
theorem spell_len (ps : Pcs) : (spell ps).length = size ps := by
  induction ps with
  | nil => rfl
  | cons p ps ih => rw [spell_cons, List.length_append, ih, rep_len]; unfold size; rw [List.map_cons, List.sum_cons, Nat.mul_comm]
theorem size_cons (p : List Nat × Nat) (ps : Pcs) : size (p :: ps) = p.1.length * p.2 + size ps := rfl
theorem size_take_succ (ps : Pcs) : ∀ {i : Nat} {p}, ps[i]? = some p → size (ps.take (i + 1)) = size (ps.take i) + p.1.length * p.2 := by
  induction ps with
  | nil => intro i p h; simp at h
  | cons q ps ih =>
    intro i p h
    cases i with
    | zero =>
      have e : q = p := by simpa using h
      subst e
      simp [size]
    | succ i =>
      have := ih (i := i) (p := p) (by simpa using h)
      rw [List.take_succ_cons, size_cons, this, List.take_succ_cons, size_cons, Nat.add_assoc]
theorem size_take_le (ps : Pcs) (i : Nat) : size (ps.take i) ≤ size ps := by
  induction ps generalizing i with
  | nil => simp
  | cons q ps ih =>
    cases i with
    | zero => simp [size]
    | succ i => rw [List.take_succ_cons, size_cons, size_cons]; have := ih i; omega

/-- small letters -/
def alpha : List Nat := [97, 98, 99, 100, 101, 102, 103, 104, 105, 106, 107, 108, 109, 110, 111, 112, 113, 114, 115, 116, 117, 118, 119, 120, 121, 122]
theorem tx_alpha : tx alpha = ("abcdefghijklmnopqrstuvwxyz" : Str) := by decide +kernel
def Plain (w : List Nat) : Prop := w.all (alpha.contains ·) = true
def Word (w : List Nat) : Prop := Plain w ∧ w ≠ [] ∧ w.length ≤ 60
structure Good (ps : Pcs) : Prop where
  few : ps.length ≤ 40
  ok : ∀ p ∈ ps, Word p.1 ∧ 1 ≤ p.2
  all : size ps ≤ 10 ^ 30

/-! ### things -/
inductive Dt where
  | non | bl (b : Bool) | int (i : Int) | str (w : List Nat) | lst (xs : List Dt) | tup (xs : List Dt) | dic
mutual
def At (K : PySem.W.Frag) (H : Hp) : V → Dt → Prop
  | v, .non => v = .non
  | v, .bl b => v = .bl b
  | v, .int i => v = .int i
  | v, .str w => v = .str (tx w) ∧ w.length ≤ 1000000
  | v, .lst ds => ∃ a xs, v = .ref a ∧ SqL K H a xs ∧ Ats K H xs ds
  | v, .tup ds => ∃ a xs, v = .ref a ∧ SqT K H a xs ∧ Ats K H xs ds
  | v, .dic => ∃ a, v = .ref a ∧ H a = some (.dK [])
def Ats (K : PySem.W.Frag) (H : Hp) : List V → List Dt → Prop
  | vs, [] => vs = []
  | vs, d :: ds => ∃ v us, vs = v :: us ∧ At K H v d ∧ Ats K H us ds
end
section
variable {K : PySem.W.Frag} {H H' : Hp}
mutual
theorem At.same (e : Same H H') : ∀ (d : Dt) (v : V), At K H v d → At K H' v d
  | .non, v, h => by unfold At at h ⊢; exact h
  | .bl _, v, h => by unfold At at h ⊢; exact h
  | .int _, v, h => by unfold At at h ⊢; exact h
  | .str _, v, h => by unfold At at h ⊢; exact h
  | .lst ds, v, h => by
    unfold At at h ⊢
    obtain ⟨a, xs, rfl, h1, h2⟩ := h
    exact ⟨a, xs, rfl, e.seq h1, Ats.same e ds xs h2⟩
  | .tup ds, v, h => by
    unfold At at h ⊢
    obtain ⟨a, xs, rfl, h1, h2⟩ := h
    exact ⟨a, xs, rfl, sameT e h1, Ats.same e ds xs h2⟩
  | .dic, v, h => by
    unfold At at h ⊢
    obtain ⟨a, rfl, h1⟩ := h
    exact ⟨a, rfl, e _ _ h1⟩
theorem Ats.same (e : Same H H') : ∀ (ds : List Dt) (vs : List V), Ats K H vs ds → Ats K H' vs ds
  | [], vs, h => by unfold Ats at h ⊢; exact h
  | d :: ds, vs, h => by
    unfold Ats at h ⊢
    obtain ⟨v, us, rfl, h1, h2⟩ := h
    exact ⟨v, us, rfl, At.same e d v h1, Ats.same e ds us h2⟩
end
theorem Ats.len : ∀ {ds : List Dt} {vs : List V}, Ats K H vs ds → vs.length = ds.length
  | [], vs, h => by unfold Ats at h; subst h; rfl
  | d :: ds, vs, h => by
    unfold Ats at h
    obtain ⟨v, us, rfl, _, h2⟩ := h
    rw [List.length_cons, List.length_cons, h2.len]
theorem Ats.get : ∀ {ds : List Dt} {vs : List V} {i : Nat} {d : Dt}, Ats K H vs ds → ds[i]? = some d → ∃ v, vs[i]? = some v ∧ At K H v d
  | [], vs, i, d, h, e => by simp at e
  | c :: ds, vs, i, d, h, e => by
    unfold Ats at h
    obtain ⟨v, us, rfl, h1, h2⟩ := h
    cases i with
    | zero =>
      have : c = d := by simpa using e
      subst this
      exact ⟨v, rfl, h1⟩
    | succ i => exact h2.get (by simpa using e)
end
/-- the type's name -/
def Dt.ty : Dt → String
  | .non => "NoneType"
  | .bl _ => "bool"
  | .int _ => "int"
  | .str _ => "str"
  | .lst _ => "list"
  | .tup _ => "tuple"
  | .dic => "dict"
theorem ty_known (d : Dt) : d.ty ∈ knownTy := by cases d <;> simp [Dt.ty, knownTy]
theorem At.ty {K : PySem.W.Frag} {H : Hp} {v : V} {d : Dt} (h : At K H v d) : TyB K H v d.ty := by
  cases d with
  | non => unfold At at h; subst h; exact .non
  | bl b => unfold At at h; subst h; exact .bl b
  | int i => unfold At at h; subst h; exact .int i
  | str w => unfold At at h; obtain ⟨rfl, _⟩ := h; exact .str _
  | lst ds => unfold At at h; obtain ⟨a, xs, rfl, h1, _⟩ := h; exact .lst h1
  | tup ds => unfold At at h; obtain ⟨a, xs, rfl, h1, _⟩ := h; exact .tup h1
  | dic => unfold At at h; obtain ⟨a, rfl, h1⟩ := h; exact .dK h1
/-- what is_row, is_whole, .. tell -/
def isRow : Dt → Bool
  | .lst _ => true
  | .tup _ => true
  | _ => false
def Dt.items : Dt → List Dt
  | .lst ds => ds
  | .tup ds => ds
  | _ => []
def isWhole (d : Dt) (lo : Int) : Bool := match d with
  | .int i => decide (lo ≤ i)
  | _ => false
def isWithin (d : Dt) (lo hi : Int) : Bool := match d with
  | .int i => decide (lo ≤ i) && decide (i ≤ hi)
  | _ => false
def isPlain : Dt → Bool
  | .str w => w.all (alpha.contains ·)
  | _ => false
def isLetter : Dt → Bool
  | .str w => w.all (alpha.contains ·) && decide (w.length = 1)
  | _ => false
def isClip : Dt → Bool
  | .str w => w.all (alpha.contains ·) && decide (w.length ≤ 60)
  | _ => false
def isWord : Dt → Bool
  | .str w => w.all (alpha.contains ·) && decide (w.length ≤ 60) && decide (w ≠ [])
  | _ => false
def isPiece (d : Dt) : Bool := isRow d && (match d.items with
  | [a, b] => isWord a && isWhole b 1
  | _ => false)
def pieceSize (d : Dt) : Int := match d.items with
  | [.str w, .int n] => (w.length : Int) * n
  | _ => 0
def isText (d : Dt) : Bool := isRow d && decide (d.items.length ≤ 40) && d.items.all isPiece && decide ((d.items.map pieceSize).sum ≤ 10 ^ 30)
/-- a text's pieces -/
def pcOf (d : Dt) : List Nat × Nat := match d.items with
  | [.str w, .int n] => (w, n.toNat)
  | _ => ([], 0)
def pcs (d : Dt) : Pcs := d.items.map pcOf
theorem isPiece_of {d : Dt} (h : isPiece d = true) : ∃ w n, d.items = [.str w, .int n] ∧ isRow d = true ∧ Word w ∧ 1 ≤ n := by
  unfold isPiece at h
  rw [Bool.and_eq_true] at h
  obtain ⟨h1, h2⟩ := h
  split at h2
  · rename_i a b e
    rw [Bool.and_eq_true] at h2
    obtain ⟨h3, h4⟩ := h2
    cases a with
    | str w =>
      cases b with
      | int n =>
        unfold isWord at h3
        unfold isWhole at h4
        simp only [Bool.and_eq_true, decide_eq_true_eq] at h3 h4
        exact ⟨w, n, e, h1, ⟨h3.1.1, h3.2, h3.1.2⟩, h4⟩
      | _ => simp [isWhole] at h4
    | _ => simp [isWord] at h3
  · cases h2
theorem sum_size : ∀ {ds : List Dt}, ds.all isPiece = true → (ds.map pieceSize).sum = (size (ds.map pcOf) : Int)
  | [], _ => rfl
  | d :: ds, h => by
    rw [List.all_cons, Bool.and_eq_true] at h
    obtain ⟨w, n, e, _, _, hn⟩ := isPiece_of h.1
    rw [List.map_cons, List.sum_cons, sum_size h.2, List.map_cons, size_cons]
    have e1 : pieceSize d = (w.length : Int) * n := by unfold pieceSize; rw [e]
    have e2 : pcOf d = (w, n.toNat) := by unfold pcOf; rw [e]
    rw [e1, e2, Int.natCast_add, Int.natCast_mul, Int.toNat_of_nonneg (by omega)]
theorem Good.of {d : Dt} (h : isText d = true) : Good (pcs d) := by
  unfold isText at h
  simp only [Bool.and_eq_true, decide_eq_true_eq] at h
  obtain ⟨⟨⟨h1, h2⟩, h3⟩, h4⟩ := h
  refine ⟨by unfold pcs; rw [List.length_map]; exact h2, fun p hp => ?_, ?_⟩
  · unfold pcs at hp
    obtain ⟨e, he, rfl⟩ := List.mem_map.mp hp
    obtain ⟨w, n, e1, _, hw, hn⟩ := isPiece_of (List.all_eq_true.mp h3 e he)
    have e2 : pcOf e = (w, n.toNat) := by unfold pcOf; rw [e1]
    rw [e2]
    exact ⟨hw, by show 1 ≤ n.toNat; omega⟩
  · rw [sum_size h3] at h4
    unfold pcs
    have : ((10 ^ 30 : Nat) : Int) = (10 ^ 30 : Int) := by decide
    omega

/-! ### a text in the heap, by its pieces -/
def PieceAt (K : PySem.W.Frag) (H : Hp) (v : V) (p : List Nat × Nat) : Prop := ∃ a, v = .ref a ∧ Row K H a [.str (tx p.1), .int p.2]
def TextAt (K : PySem.W.Frag) (H : Hp) (v : V) (ps : Pcs) : Prop := ∃ a xs, v = .ref a ∧ Row K H a xs ∧ Paired (PieceAt K H) xs ps
theorem prd_same {α β : Type} {R S : α → β → Prop} (f : ∀ a b, R a b → S a b) : ∀ {xs : List α} {ys : List β}, Paired R xs ys → Paired S xs ys
  | _, _, .nil => .nil
  | _, _, .cons h t => .cons (f _ _ h) (prd_same f t)
theorem PieceAt.same {K : PySem.W.Frag} {H H' : Hp} {v : V} {p} (e : Same H H') (h : PieceAt K H v p) : PieceAt K H' v p := by
  obtain ⟨a, rfl, h⟩ := h
  exact ⟨a, rfl, h.same e⟩
theorem TextAt.same {K : PySem.W.Frag} {H H' : Hp} {v : V} {ps} (e : Same H H') (h : TextAt K H v ps) : TextAt K H' v ps := by
  obtain ⟨a, xs, rfl, h1, h2⟩ := h
  exact ⟨a, xs, rfl, h1.same e, prd_same (fun _ _ => PieceAt.same e) h2⟩
theorem at_row {K : PySem.W.Frag} {H : Hp} {v : V} {d : Dt} (h : At K H v d) (hr : isRow d = true) : ∃ a xs, v = .ref a ∧ Row K H a xs ∧ Ats K H xs d.items := by
  cases d with
  | lst ds => unfold At at h; obtain ⟨a, xs, rfl, h1, h2⟩ := h; exact ⟨a, xs, rfl, .inl h1, h2⟩
  | tup ds => unfold At at h; obtain ⟨a, xs, rfl, h1, h2⟩ := h; exact ⟨a, xs, rfl, .inr h1, h2⟩
  | _ => simp [isRow] at hr
theorem pieceAt_of {K : PySem.W.Frag} {H : Hp} {v : V} {d : Dt} (h : At K H v d) (hp : isPiece d = true) : PieceAt K H v (pcOf d) := by
  obtain ⟨w, n, e, hr, hw, hn⟩ := isPiece_of hp
  obtain ⟨a, xs, rfl, h1, h2⟩ := at_row h hr
  rw [e] at h2
  unfold Ats at h2
  obtain ⟨v1, us, rfl, g1, h2⟩ := h2
  unfold Ats at h2
  obtain ⟨v2, us, rfl, g2, h2⟩ := h2
  unfold Ats at h2
  subst h2
  unfold At at g1 g2
  obtain ⟨rfl, _⟩ := g1
  subst g2
  have e2 : pcOf d = (w, n.toNat) := by unfold pcOf; rw [e]
  rw [e2]
  refine ⟨a, rfl, ?_⟩
  show Row K H a [.str (tx w), .int (n.toNat : Int)]
  rw [Int.toNat_of_nonneg (by omega)]
  exact h1
theorem textAt_of {K : PySem.W.Frag} {H : Hp} {v : V} {d : Dt} (h : At K H v d) (ht : isText d = true) : TextAt K H v (pcs d) := by
  unfold isText at ht
  simp only [Bool.and_eq_true, decide_eq_true_eq] at ht
  obtain ⟨⟨⟨h1, h2⟩, h3⟩, h4⟩ := ht
  obtain ⟨a, xs, rfl, g1, g2⟩ := at_row h h1
  refine ⟨a, xs, rfl, g1, ?_⟩
  unfold pcs
  generalize hd : d.items = ds at g2 h3
  clear hd h4 h1 h2 g1 h
  induction ds generalizing xs with
  | nil => unfold Ats at g2; subst g2; exact .nil
  | cons c ds ih =>
    unfold Ats at g2
    obtain ⟨v, us, rfl, k1, k2⟩ := g2
    rw [List.all_cons, Bool.and_eq_true] at h3
    exact .cons (pieceAt_of k1 h3.1) (ih us k2 h3.2)
theorem prd_at {α β : Type} {R : α → β → Prop} {xs : List α} {ys : List β} (h : Paired R xs ys) : ∀ {i : Nat} {x : α}, xs[i]? = some x → ∃ y, ys[i]? = some y ∧ R x y := by
  induction h with
  | nil => intro i x e; simp at e
  | cons h t ih =>
    intro i x e
    cases i with
    | zero =>
      have := Option.some.inj e
      subst this
      exact ⟨_, rfl, h⟩
    | succ i => exact ih (by simpa using e)
theorem prd_len {α β : Type} {R : α → β → Prop} {xs : List α} {ys : List β} (h : Paired R xs ys) : xs.length = ys.length := Paired.length h

theorem at_ofA {α : Type} {xs : List α} {z : Int} {j : Nat} {v : α} (e : z = (j : Int)) (h : xs[j]? = some v) : atI xs z = some v := by
  rw [e]
  exact atI_nat h
/-! ### readings over rows -/
section
variable {K : PySem.W.Frag} {H : Hp} {a : Addr} {xs : List V}
theorem ix_row {i : Int} {x : V} {Q : VK} (h : Row K H a xs) (e : atI xs i = some x) (q : Q x H) : rIx K (.ref a) (.int i) H Q := by
  rcases h with h | h
  · exact .inl ⟨a, xs, i, x, rfl, rfl, h, e, q⟩
  · exact .inr (.inl ⟨a, xs, i, x, rfl, rfl, h, e, q⟩)
theorem ix_lst {i : Int} {x : V} {Q : VK} (h : H a = some (.lst xs)) (e : atI xs i = some x) (q : Q x H) : rIx K (.ref a) (.int i) H Q := ix_row (.inl (SqL.of h)) e q
theorem ix_tx {z : List Nat} {i : Int} {c : Nat} {Q : VK} (h : z.length ≤ 1000000) (e : atI z i = some c) (q : Q (.str (tx [c])) H) : rIx K (.str (tx z)) (.int i) H Q :=
  .inr (.inr ⟨tx z, i, c, rfl, rfl, by rw [tx_len]; exact Nat.le_trans h (by decide), by rw [tx_cps]; exact e, q⟩)
theorem len_row {Q : VK} (h : Row K H a xs) (q : Q (.int xs.length) H) : rLenA K [.ref a] H Q := .inl ⟨a, xs, rfl, h, q⟩
theorem len_tx {w : List Nat} {Q : VK} (h : w.length ≤ 1000000) (q : Q (.int w.length) H) : rLenA K [.str (tx w)] H Q :=
  .inr ⟨tx w, rfl, by rw [tx_len]; exact Nat.le_trans h (by decide), by rw [tx_len]; exact q⟩
end
theorem Ats.at {K : PySem.W.Frag} {H : Hp} : ∀ {ds : List Dt} {vs : List V} {i : Nat} {v : V}, Ats K H vs ds → vs[i]? = some v → ∃ d, ds[i]? = some d ∧ At K H v d
  | [], vs, i, v, h, e => by unfold Ats at h; subst h; simp at e
  | c :: ds, vs, i, v, h, e => by
    unfold Ats at h
    obtain ⟨x, us, rfl, h1, h2⟩ := h
    cases i with
    | zero =>
      have : x = v := by simpa using e
      subst this
      exact ⟨c, rfl, h1⟩
    | succ i => exact h2.at (by simpa using e)
theorem isum_take : ∀ {l : List Int} {i : Nat} {z : Int}, l[i]? = some z → (l.take (i + 1)).sum = (l.take i).sum + z := sum_take
theorem all_take_succ {α : Type} {p : α → Bool} {l : List α} {i : Nat} {x : α} (h : (l.take i).all p = true) (e : l[i]? = some x) (hx : p x = true) : (l.take (i + 1)).all p = true := by
  rw [List.take_add_one, e, List.all_append, h]
  simp [hx]
end BK

namespace BK
open PySem PySem.Spec PyProof.Rows L2

/-! ### stretches of a word again and again -/
def cyc (w : List Nat) (at_ many : Nat) : List Nat := ((rep w ((at_ % w.length + many) / w.length + 1)).drop (at_ % w.length)).take many
theorem cyc_get {w : List Nat} (hw : w ≠ []) (a m i : Nat) (h : i < m) : (cyc w a m)[i]? = w[(a + i) % w.length]? := by
  have hp : 0 < w.length := List.length_pos_iff.mpr hw
  unfold cyc
  rw [List.getElem?_take, if_pos h, List.getElem?_drop, rep_get]
  · rw [Nat.mod_add_mod]
  · have h1 := Nat.lt_div_mul_add (a := a % w.length + m) hp
    rw [Nat.add_mul, Nat.one_mul]
    omega
theorem drop_rep {w : List Nat} (hw : w ≠ []) {n a m : Nat} (h : a + m ≤ n * w.length) : ((rep w n).drop a).take m = cyc w a m := by
  apply List.ext_getElem?
  intro i
  by_cases hi : i < m
  · rw [cyc_get hw a m i hi, List.getElem?_take, if_pos hi, List.getElem?_drop, rep_get _ _ _ (by omega)]
  · have hp : 0 < w.length := List.length_pos_iff.mpr hw
    rw [List.getElem?_take, if_neg hi]
    unfold cyc
    rw [List.getElem?_take, if_neg hi]
theorem cyc_len {w : List Nat} (hw : w ≠ []) (a m : Nat) : (cyc w a m).length = m := by
  have hp : 0 < w.length := List.length_pos_iff.mpr hw
  unfold cyc
  rw [List.length_take, List.length_drop, rep_len]
  have h1 := Nat.lt_div_mul_add (a := a % w.length + m) hp
  rw [Nat.add_mul, Nat.one_mul]
  omega

theorem rep_mem {x : List Nat} {c : Nat} : ∀ {n : Nat}, c ∈ rep x n → c ∈ x
  | 0, h => by cases h
  | n + 1, h => by
    rw [rep_succ] at h
    rcases List.mem_append.mp h with h | h
    · exact h
    · exact rep_mem h
/-! ### spans -/
abbrev Span := Nat × Nat × List Nat
def spansOf : Nat → Pcs → List Span
  | _, [] => []
  | s, p :: ps => (s, s + p.1.length * p.2, p.1) :: spansOf (s + p.1.length * p.2) ps
theorem spansOf_len : ∀ (ps : Pcs) (s : Nat), (spansOf s ps).length = ps.length
  | [], _ => rfl
  | p :: ps, s => by unfold spansOf; rw [List.length_cons, spansOf_len ps, List.length_cons]
theorem spansOf_get : ∀ (ps : Pcs) (s i : Nat) (p), ps[i]? = some p → (spansOf s ps)[i]? = some (s + size (ps.take i), s + size (ps.take i) + p.1.length * p.2, p.1)
  | [], s, i, p, h => by simp at h
  | q :: ps, s, 0, p, h => by
    have : q = p := by simpa using h
    subst this
    simp [spansOf, size]
  | q :: ps, s, i + 1, p, h => by
    unfold spansOf
    rw [List.getElem?_cons_succ, spansOf_get ps _ i p (by simpa using h), List.take_succ_cons, size_cons]
    simp only [Nat.add_assoc]
theorem spansOf_at (ps : Pcs) {i : Nat} {x : Span} (h : (spansOf 0 ps)[i]? = some x) : ∃ p, ps[i]? = some p ∧ x = (size (ps.take i), size (ps.take i) + p.1.length * p.2, p.1) := by
  have hl := (List.getElem?_eq_some_iff.mp h).1
  rw [spansOf_len] at hl
  refine ⟨ps[i], List.getElem?_eq_getElem hl, ?_⟩
  have := spansOf_get ps 0 i ps[i] (List.getElem?_eq_getElem hl)
  rw [this] at h
  have := Option.some.inj h
  rw [← this]
  simp only [Nat.zero_add]
def SpanAt (H : Hp) (v : V) (x : Span) : Prop := ∃ a, v = .ref a ∧ H a = some (.tup [.int x.1, .int x.2.1, .str (tx x.2.2)])
def SpansAt (H : Hp) (a : Addr) (xs : List Span) : Prop := ∃ us, H a = some (.lst us) ∧ Paired (SpanAt H) us xs
theorem SpanAt.same {H H' : Hp} {v : V} {x : Span} (e : Same H H') (h : SpanAt H v x) : SpanAt H' v x := by
  obtain ⟨a, rfl, h⟩ := h
  exact ⟨a, rfl, e _ _ h⟩
theorem SpansAt.same {H H' : Hp} {a : Addr} {xs : List Span} (e : Same H H') (h : SpansAt H a xs) : SpansAt H' a xs := by
  obtain ⟨us, h1, h2⟩ := h
  exact ⟨us, e _ _ h1, prd_same (fun _ _ => SpanAt.same e) h2⟩
theorem SpanAt.upd {H : Hp} {v : V} {x : Span} {o : Addr} {us vs : List V} (ho : H o = some (.lst us)) (h : SpanAt H v x) : SpanAt (upd H o (.lst vs)) v x := by
  obtain ⟨a, rfl, h⟩ := h
  exact ⟨a, rfl, by rw [upd_ne (ne_of h ho (by intro z; cases z))]; exact h⟩
theorem prd_snoc {α β : Type} {R : α → β → Prop} {xs : List α} {ys : List β} {x : α} {y : β} (h : Paired R xs ys) (hxy : R x y) : Paired R (xs ++ [x]) (ys ++ [y]) := by
  induction h with
  | nil => exact .cons hxy .nil
  | cons a t ih => exact .cons a ih
theorem same_mut {H H' : Hp} {p : Addr} {o : HO} (e : Same H H') (h : H p = none) : Same H (upd H' p o) := fun a u ha => by
  rw [upd_ne (ne_of_none ha h)]
  exact e a u ha
/-- the spans' end -/
theorem spansOf_last {ps : Pcs} (h : ps ≠ []) : ∃ p s, ps.getLast? = some p ∧ (spansOf 0 ps).getLast? = some (s, size ps, p.1) := by
  have hp : 0 < ps.length := List.length_pos_iff.mpr h
  have e := List.getElem?_eq_getElem (l := ps) (i := ps.length - 1) (by omega)
  refine ⟨ps[ps.length - 1], size (ps.take (ps.length - 1)), by rw [List.getLast?_eq_getElem?, e], ?_⟩
  rw [List.getLast?_eq_getElem?, spansOf_len, spansOf_get ps 0 _ _ e, Nat.zero_add, ← size_take_succ ps e, show ps.length - 1 + 1 = ps.length by omega, List.take_length]

/-! ### looks, counts, so-manieths of what is spelled -/
theorem spell_take_succ {ps : Pcs} {i : Nat} {p} (h : ps[i]? = some p) : spell (ps.take (i + 1)) = spell (ps.take i) ++ rep p.1 p.2 := by
  rw [List.take_add_one, h, spell_app]
  show _ ++ spell [p] = _
  rw [spell_cons, spell_nil, List.append_nil]
theorem look_app (A B : List Nat) (p m : Nat) : ((A ++ B).drop p).take m = (A.drop p).take m ++ (B.drop (max A.length p - A.length)).take (min (A.length + B.length) (p + m) - max A.length p) := by
  rw [List.drop_append, List.take_append, List.length_drop]
  congr 1
  rw [show max A.length p - A.length = p - A.length by omega]
  by_cases h : m - (A.length - p) ≤ B.length - (p - A.length)
  · congr 1
    omega
  · rw [List.take_of_length_le (by rw [List.length_drop]; omega), List.take_of_length_le (by rw [List.length_drop]; omega)]
theorem count_app (A B : List Nat) (c m : Nat) : ((A ++ B).take m).count c = (A.take m).count c + (B.take (min (A.length + B.length) m - A.length)).count c := by
  rw [List.take_append, List.count_append]
  congr 2
  by_cases h : m - A.length ≤ B.length
  · congr 1
    omega
  · rw [List.take_of_length_le (by omega), List.take_of_length_le (by omega)]
/-- the places of a sign -/
def pos (w : List Nat) (c : Nat) : List Nat := (List.range w.length).filter fun i => w[i]? == some c
def IsNth (l : List Nat) (c k i : Nat) : Prop := l[i]? = some c ∧ (l.take i).count c = k
theorem posTo (w : List Nat) (c : Nat) : ∀ n, n ≤ w.length → ((List.range n).filter fun i => w[i]? == some c).length = (w.take n).count c ∧
    ∀ k i, ((List.range n).filter fun i => w[i]? == some c)[k]? = some i → IsNth w c k i
  | 0, _ => ⟨by simp, fun k i h => by simp at h⟩
  | n + 1, hn => by
    obtain ⟨ih1, ih2⟩ := posTo w c n (by omega)
    rw [List.range_succ, List.filter_append]
    have hg : w[n]? = some w[n] := List.getElem?_eq_getElem (by omega)
    by_cases hc : w[n] = c
    · have e : (List.filter (fun i => w[i]? == some c) [n]) = [n] := by
        rw [List.filter_cons, hg, hc]
        simp
      rw [e]
      have hcount : (w.take (n + 1)).count c = (w.take n).count c + 1 := by
        rw [List.take_add_one, hg, List.count_append, hc]
        simp
      refine ⟨by rw [List.length_append, ih1, hcount]; rfl, fun k i h => ?_⟩
      by_cases hk : k < ((List.range n).filter fun i => w[i]? == some c).length
      · rw [List.getElem?_append_left hk] at h
        exact ih2 k i h
      · rw [List.getElem?_append_right (by omega)] at h
        have hk0 : k - ((List.range n).filter fun i => w[i]? == some c).length = 0 := by
          have := (List.getElem?_eq_some_iff.mp h).1
          simp at this
          omega
        rw [hk0] at h
        have hi : n = i := by simpa using h
        subst hi
        refine ⟨by rw [hg, hc], ?_⟩
        rw [← ih1]
        omega
    · have e : (List.filter (fun i => w[i]? == some c) [n]) = [] := by
        rw [List.filter_cons, hg]
        simp [hc]
      rw [e, List.append_nil]
      have hcount : (w.take (n + 1)).count c = (w.take n).count c := by
        rw [List.take_add_one, hg, List.count_append]
        simp [hc]
      exact ⟨by rw [ih1, hcount], ih2⟩
theorem pos_len (w : List Nat) (c : Nat) : (pos w c).length = w.count c := by
  have := (posTo w c w.length (Nat.le_refl _)).1
  rw [List.take_length] at this
  exact this
theorem pos_get {w : List Nat} {c k i : Nat} (h : (pos w c)[k]? = some i) : IsNth w c k i := (posTo w c w.length (Nat.le_refl _)).2 k i h
theorem nth_rep {w : List Nat} {c q r i n : Nat} (h : IsNth w c r i) (hq : q < n) : IsNth (rep w n) c (q * w.count c + r) (q * w.length + i) := by
  have hi := (List.getElem?_eq_some_iff.mp h.1).1
  have e : n = q + ((n - q - 1) + 1) := by omega
  rw [e, rep_add, rep_succ]
  constructor
  · rw [List.getElem?_append_right (by rw [rep_len]; omega), rep_len, show q * w.length + i - q * w.length = i by omega, List.getElem?_append_left hi]
    exact h.1
  · rw [List.take_append, rep_len, List.count_append, List.take_of_length_le (by rw [rep_len]; omega), rep_count, show q * w.length + i - q * w.length = i by omega, List.take_append_of_le_length (by omega), h.2]
theorem nth_app_right {A B : List Nat} {c k i : Nat} (h : IsNth B c k i) : IsNth (A ++ B) c (A.count c + k) (A.length + i) := by
  constructor
  · rw [List.getElem?_append_right (by omega), show A.length + i - A.length = i by omega]
    exact h.1
  · rw [List.take_append, List.count_append, List.take_of_length_le (by omega), show A.length + i - A.length = i by omega, h.2]
theorem nth_app_left {A B : List Nat} {c k i : Nat} (h : IsNth A c k i) : IsNth (A ++ B) c k i := by
  have hi := (List.getElem?_eq_some_iff.mp h.1).1
  exact ⟨by rw [List.getElem?_append_left hi]; exact h.1, by rw [List.take_append_of_le_length (by omega)]; exact h.2⟩
theorem sum_le_len : ∀ (ss : List (List Nat)), (ss.map (·.length)).sum = ss.flatten.length
  | [] => rfl
  | a :: r => by rw [List.map_cons, List.sum_cons, sum_le_len r, List.flatten_cons, List.length_append]
end BK

namespace BK
open PySem PySem.Spec PyProof.Rows L2
/-! ## keys and sheets -/
inductive Ky where
  | write (w : List Nat) | paste | left (n : Nat) | right (n : Nat) | strike (n : Nat) | rub (n : Nat) | copy (n : Nat) | cut (n : Nat)
def Ky.vs : Ky → List V
  | .write w => [.str "write", .str (tx w)]
  | .paste => [.str "paste"]
  | .left n => [.str "left", .int n]
  | .right n => [.str "right", .int n]
  | .strike n => [.str "strike", .int n]
  | .rub n => [.str "rub", .int n]
  | .copy n => [.str "copy", .int n]
  | .cut n => [.str "cut", .int n]
def Ky.wt : Ky → Nat
  | .write w => w.length
  | .paste => 1
  | .left n | .right n | .strike n | .rub n | .copy n | .cut n => n
def Ky.ok : Ky → Prop
  | .write w => w ≠ [] ∧ w.length ≤ 60 ∧ Plain w
  | .paste => True
  | .left n | .right n | .strike n | .rub n | .copy n | .cut n => 1 ≤ n
def hwt (ks : List Ky) : Nat := (ks.map Ky.wt).sum
structure GoodH (ks : List Ky) : Prop where
  ok : ∀ k ∈ ks, k.ok
  wt : hwt ks ≤ 60
theorem Ky.ok.pos : ∀ {k : Ky}, k.ok → 1 ≤ k.wt
  | .write w, h => List.length_pos_iff.mpr h.1
  | .paste, _ => Nat.le_refl _
  | .left n, h | .right n, h | .strike n, h | .rub n, h | .copy n, h | .cut n, h => h
theorem hwt_cons (k : Ky) (ks : List Ky) : hwt (k :: ks) = k.wt + hwt ks := by unfold hwt; rw [List.map_cons, List.sum_cons]
theorem hwt_app (as bs : List Ky) : hwt (as ++ bs) = hwt as + hwt bs := by unfold hwt; rw [List.map_append, List.sum_append]
theorem hwt_mem {k : Ky} {ks : List Ky} (h : k ∈ ks) : k.wt ≤ hwt ks := by
  induction ks with
  | nil => cases h
  | cons a as ih =>
    rw [hwt_cons]
    rcases List.mem_cons.mp h with rfl | h
    · omega
    · have := ih h; omega
theorem len_hwt : ∀ {ks : List Ky}, (∀ k ∈ ks, k.ok) → ks.length ≤ hwt ks
  | [], _ => Nat.zero_le _
  | k :: ks, h => by
    have h1 := (h k (List.mem_cons_self ..)).pos
    have h2 := len_hwt (ks := ks) fun x hx => h x (List.mem_cons_of_mem _ hx)
    rw [hwt_cons, List.length_cons]
    omega
theorem GoodH.few {ks : List Ky} (h : GoodH ks) : ks.length ≤ 60 := Nat.le_trans (len_hwt h.ok) h.wt

/-! ### what keys do: the nearest letter of a side stands last -/
section
variable {α β : Type}
def near (s : List α) (n : Nat) : List α := (s.drop (s.length - n)).reverse
def rest (s : List α) (n : Nat) : List α := s.take (s.length - n)
theorem near_len (s : List α) (n : Nat) : (near s n).length = min n s.length := by unfold near; rw [List.length_reverse, List.length_drop]; omega
theorem rest_len (s : List α) (n : Nat) : (rest s n).length = s.length - n := by unfold rest; rw [List.length_take]; omega
theorem near_map (f : α → β) (s : List α) (n : Nat) : near (s.map f) n = (near s n).map f := by unfold near; rw [List.length_map, List.map_reverse, List.map_drop]
theorem rest_map (f : α → β) (s : List α) (n : Nat) : rest (s.map f) n = (rest s n).map f := by unfold rest; rw [List.length_map, List.map_take]
structure Sd (α : Type) where
  l : List α
  r : List α
  c : List α
def Sd.map (f : α → β) (s : Sd α) : Sd β := ⟨s.l.map f, s.r.map f, s.c.map f⟩
def step (f : Nat → α) : Ky → Sd α → Sd α
  | .write w, s => ⟨s.l ++ w.map f, s.r, s.c⟩
  | .paste, s => ⟨s.l ++ s.c, s.r, s.c⟩
  | .left n, s => ⟨rest s.l n, s.r ++ near s.l n, s.c⟩
  | .right n, s => ⟨s.l ++ near s.r n, rest s.r n, s.c⟩
  | .strike n, s => ⟨s.l, rest s.r n, s.c⟩
  | .rub n, s => ⟨rest s.l n, s.r, s.c⟩
  | .copy n, s => ⟨s.l, s.r, near s.r n⟩
  | .cut n, s => ⟨s.l, rest s.r n, near s.r n⟩
theorem step_map (f : Nat → α) (g : α → β) : ∀ (k : Ky) (s : Sd α), step (fun n => g (f n)) k (s.map g) = (step f k s).map g
  | .write w, s => by
    show Sd.mk (s.l.map g ++ w.map fun n => g (f n)) _ _ = Sd.mk ((s.l ++ w.map f).map g) _ _
    rw [List.map_append, List.map_map]
    rfl
  | .paste, s => by
    show Sd.mk (s.l.map g ++ s.c.map g) _ _ = Sd.mk ((s.l ++ s.c).map g) _ _
    rw [List.map_append]
    rfl
  | .left n, s => by
    show Sd.mk (rest (s.l.map g) n) (s.r.map g ++ near (s.l.map g) n) _ = Sd.mk ((rest s.l n).map g) ((s.r ++ near s.l n).map g) _
    rw [List.map_append, near_map, rest_map]
    rfl
  | .right n, s => by
    show Sd.mk (s.l.map g ++ near (s.r.map g) n) (rest (s.r.map g) n) _ = Sd.mk ((s.l ++ near s.r n).map g) ((rest s.r n).map g) _
    rw [List.map_append, near_map, rest_map]
    rfl
  | .strike n, s => by
    show Sd.mk _ (rest (s.r.map g) n) _ = Sd.mk _ ((rest s.r n).map g) _
    rw [rest_map]
    rfl
  | .rub n, s => by
    show Sd.mk (rest (s.l.map g) n) _ _ = Sd.mk ((rest s.l n).map g) _ _
    rw [rest_map]
    rfl
  | .copy n, s => by
    show Sd.mk _ _ (near (s.r.map g) n) = Sd.mk _ _ ((near s.r n).map g)
    rw [near_map]
    rfl
  | .cut n, s => by
    show Sd.mk _ (rest (s.r.map g) n) (near (s.r.map g) n) = Sd.mk _ ((rest s.r n).map g) ((near s.r n).map g)
    rw [near_map, rest_map]
    rfl
def Sd.size (s : Sd α) : Nat := s.l.length + s.r.length
theorem step_size (f : Nat → α) : ∀ (k : Ky) (s : Sd α), k.wt ≤ 60 → s.c.length ≤ 60 → (step f k s).size ≤ s.size + 60 ∧ (step f k s).c.length ≤ 60
  | .write w, s, h, hc => by
    have h : w.length ≤ 60 := h
    unfold Sd.size step
    simp only [List.length_append, List.length_map]
    omega
  | .paste, s, h, hc => by
    unfold Sd.size step
    simp only [List.length_append]
    omega
  | .left n, s, h, hc | .right n, s, h, hc | .strike n, s, h, hc | .rub n, s, h, hc | .copy n, s, h, hc | .cut n, s, h, hc => by
    have h : n ≤ 60 := h
    unfold Sd.size step
    simp only [List.length_append, near_len, rest_len]
    omega
def steps (f : Nat → α) (ks : List Ky) (s : Sd α) : Sd α := ks.foldl (fun s k => step f k s) s
theorem steps_app (f : Nat → α) (as bs : List Ky) (s : Sd α) : steps f (as ++ bs) s = steps f bs (steps f as s) := by unfold steps; rw [List.foldl_append]
theorem steps_cons (f : Nat → α) (k : Ky) (ks : List Ky) (s : Sd α) : steps f (k :: ks) s = steps f ks (step f k s) := rfl
theorem steps_map (f : Nat → α) (g : α → β) : ∀ (ks : List Ky) (s : Sd α), steps (fun n => g (f n)) ks (s.map g) = (steps f ks s).map g
  | [], _ => rfl
  | k :: ks, s => by rw [steps_cons, steps_cons, step_map, steps_map f g ks]
theorem steps_size (f : Nat → α) : ∀ (ks : List Ky) (s : Sd α), (∀ k ∈ ks, k.wt ≤ 60) → s.c.length ≤ 60 → (steps f ks s).size ≤ s.size + 60 * ks.length ∧ (steps f ks s).c.length ≤ 60
  | [], s, _, hc => ⟨Nat.le_refl _, hc⟩
  | k :: ks, s, h, hc => by
    obtain ⟨h1, h2⟩ := step_size f k s (h k (List.mem_cons_self ..)) hc
    obtain ⟨h3, h4⟩ := steps_size f ks (step f k s) (fun x hx => h x (List.mem_cons_of_mem _ hx)) h2
    rw [steps_cons, List.length_cons]
    exact ⟨by omega, h4⟩
/-- so many pressings -/
def presses (f : Nat → α) (ks : List Ky) : Nat → Sd α → Sd α
  | 0, s => s
  | n + 1, s => presses f ks n (steps f ks s)
theorem presses_add (f : Nat → α) (ks : List Ky) : ∀ (m n : Nat) (s : Sd α), presses f ks (m + n) s = presses f ks n (presses f ks m s)
  | 0, n, s => by rw [Nat.zero_add]; rfl
  | m + 1, n, s => by
    rw [show m + 1 + n = (m + n) + 1 by omega]
    exact presses_add f ks m n (steps f ks s)
theorem presses_succ (f : Nat → α) (ks : List Ky) (n : Nat) (s : Sd α) : presses f ks (n + 1) s = steps f ks (presses f ks n s) := presses_add f ks n 1 s
theorem presses_map (f : Nat → α) (g : α → β) (ks : List Ky) : ∀ (n : Nat) (s : Sd α), presses (fun n => g (f n)) ks n (s.map g) = (presses f ks n s).map g
  | 0, _ => rfl
  | n + 1, s => by
    show presses _ ks n (steps _ ks (s.map g)) = _
    rw [steps_map, presses_map f g ks n]
    rfl
theorem presses_size (f : Nat → α) (ks : List Ky) (h : ∀ k ∈ ks, k.wt ≤ 60) (hl : ks.length ≤ 60) : ∀ (n : Nat) (s : Sd α), s.c.length ≤ 60 → (presses f ks n s).size ≤ s.size + 3600 * n ∧ (presses f ks n s).c.length ≤ 60
  | 0, s, hc => ⟨Nat.le_refl _, hc⟩
  | n + 1, s, hc => by
    obtain ⟨h1, h2⟩ := steps_size f ks s h hc
    obtain ⟨h3, h4⟩ := presses_size f ks h hl n (steps f ks s) h2
    exact ⟨by show (presses f ks n (steps f ks s)).size ≤ _; omega, h4⟩
end

/-! ### in the heap -/
def KeyAt (K : PySem.W.Frag) (H : Hp) (v : V) (k : Ky) : Prop := ∃ a, v = .ref a ∧ Row K H a k.vs
def HandAt (K : PySem.W.Frag) (H : Hp) (v : V) (ks : List Ky) : Prop := ∃ a xs, v = .ref a ∧ Row K H a xs ∧ Paired (KeyAt K H) xs ks
theorem KeyAt.same {K : PySem.W.Frag} {H H' : Hp} {v : V} {k} (e : Same H H') (h : KeyAt K H v k) : KeyAt K H' v k := by
  obtain ⟨a, rfl, h⟩ := h
  exact ⟨a, rfl, h.same e⟩
theorem HandAt.same {K : PySem.W.Frag} {H H' : Hp} {v : V} {ks} (e : Same H H') (h : HandAt K H v ks) : HandAt K H' v ks := by
  obtain ⟨a, xs, rfl, h1, h2⟩ := h
  exact ⟨a, xs, rfl, h1.same e, prd_same (fun _ _ => KeyAt.same e) h2⟩
/-- [f(x) for x in (a row that stands in slot j)] -/
theorem lc_rowN {K : PySem.W.Frag} {a : Addr} {xs ys : List V} {tt : TT} {te : TE} {vs : List Nat} {σ : L2.St} {H : Hp} {Q : VK} {j k : Nat} (hv : σ[j]? = some (some (.ref a))) (hr : Row K H a xs) (hl : xs.length = ys.length) (hz : ys.length < sizeLine)
    (hw : ∀ x, wipe ((wipe σ vs).set k (some x)) vs = wipe σ vs) (ht : ∀ σ H (R : Bool → Hp → Prop), R true H → tt σ H R)
    (hs : ∀ (i : Nat) (x y : V) (H' : Hp), xs[i]? = some x → ys[i]? = some y → Same H H' → ∀ R : VK, (∀ H4, Same H' H4 → R y H4) → te ((wipe σ vs).set k (some x)) H' R)
    (hd : ∀ D H', Same H H' → H D = none → H' D = some (.lst ys) → Q (.ref D) H') : tLc (iSeq K (tVar j)) (gName k) tt te vs σ H Q := by
  have st : ∀ D i x H', H D = none → xs[i]? = some x → Same H H' ∧ H' D = some (.lst (ys.take i)) → gName k x (wipe σ vs) H' fun σ2 H2 => wipe σ2 vs = wipe σ vs ∧ tt σ2 H2 fun b H3 =>
      if b = true then te σ2 H3 fun y H4 => ∃ acc, H4 D = some (.lst acc) ∧ acc.length < sizeLine ∧ (Same H (upd H4 D (.lst (acc ++ [y]))) ∧ (upd H4 D (.lst (acc ++ [y]))) D = some (.lst (ys.take (i + 1)))) else (Same H H3 ∧ H3 D = some (.lst (ys.take (i + 1)))) := by
    intro D i x H' nD hx ⟨s1, hD⟩
    have hi : i < ys.length := by
      rw [← hl]
      exact (List.getElem?_eq_some_iff.mp hx).1
    refine ⟨hw x, ht _ _ _ ?_⟩
    rw [if_pos rfl]
    refine hs i x ys[i] H' hx (List.getElem?_eq_getElem hi) s1 _ fun H4 s4 => ⟨_, s4 _ _ hD, ?_, same_mut (s1.trans s4) nD, ?_⟩
    · rw [List.length_take]
      omega
    · rw [upd_same, List.take_add_one, List.getElem?_eq_getElem hi]
      rfl
  have h0 : ∀ D, H D = none → Same H (upd H D (.lst [])) ∧ (upd H D (.lst [])) D = some (.lst (ys.take 0)) := fun D nD => ⟨same_upd nD, by rw [upd_same, List.take_zero]⟩
  have hq : ∀ D H', H D = none → Same H H' ∧ H' D = some (.lst (ys.take xs.length)) → Q (.ref D) H' := fun D H' nD ⟨s1, h1⟩ => hd D H' s1 nD (by rw [h1, hl, List.take_length])
  rcases hr with hr | hr
  · exact .inl ⟨_, hv, a, rfl, ⟨_, hr⟩, fun D nD => L2.lc_list (K := K) (a := a) (xs := xs) (fun i H' => Same H H' ∧ H' D = some (.lst (ys.take i))) (h0 D nD) (fun i H' _ p => p.1.seq hr) (fun i x H' hx p => st D i x H' nD hx p) (fun H' p => hq D H' nD p)⟩
  · exact .inr ⟨_, hv, a, rfl, ⟨_, hr⟩, fun D nD => L2.lc_tup (K := K) (a := a) (xs := xs) (fun i H' => Same H H' ∧ H' D = some (.lst (ys.take i))) (h0 D nD) (fun i H' _ p => sameT p.1 hr) (fun i x H' hx p => st D i x H' nD hx p) (fun H' p => hq D H' nD p)⟩
/-- the letter of a code -/
def lV (c : Nat) : V := .str (tx [c])
end BK

namespace BK
open PySem PySem.Spec PyProof.Rows L2

/-! ## defs that ask for a repr: known is that no repr is under way around them -/
structure FnG (P : Program) (w : World) (K : PySem.W.Frag) (mg : Str → Option Value) (base : Heap) (C : CXT) (k : Nat) (f : Addr) (fd : FuncData) (ps : List Str) (sp : Sp) : Prop where
  ln : ∀ vs H Q E, sp vs H Q E → vs.length = ps.length
  go : ∀ (A : Around) (out : List Env) (s : Shared) (H : Hp) (ar : Args) (us : List Value) (vs : List V) (Q : VK) (E : XK), A.guards = some [] → Room k A → Env0 P w K mg base A out s H →
    BindsTo s fd ar (ps.zip us) → Vals vs us → sp vs H Q E → codeAny (model P w) A (.call (.ref f) ar) (CR C out P w H s Q E) s
section
variable {P : Program} {w : World} {K : PySem.W.Frag} {mg : Str → Option Value} {base : Heap} {C : CXT} {k : Nat} {f : Addr} {fd : FuncData} {ps : List Str} {sp : Sp}
theorem FnG.up {j : Nat} (F : FnG P w K mg base C j f fd ps sp) (h : j ≤ k) : FnG P w K mg base C k f fd ps sp :=
  ⟨F.ln, fun A out s H ar us vs Q E hg hr => F.go A out s H ar us vs Q E hg (hr.mono h)⟩
/-- its body keeps the promise -/
theorem fnG_of {nm ql : Str} {pa : Arguments} {bd : List Stmt} {sc : Scope} {dv kv dc pm cv ct oc : Value} {an od : Option Addr} {sl : Array (Option Value)} {N : List Str}
    (lk : K.lookup f = some ⟨oc, od, .func (PySem.W.fnOf nm ql pa bd sc dv kv dc pm an cv ct), sl⟩) (hc : PySem.W.codeIn K cv ql = true) (S : FnScope N ps sc) (ln : ∀ vs H Q E, sp vs H Q E → vs.length = ps.length)
    (hb : ∀ (A : Around) (out : List Env) (s : Shared) (H : Hp) (vs : List V) (Q : VK) (E : XK), A.guards = some [] → Room k (A.deeper (envOfC ql sc s.heap.objs.size f cv)) → sp vs H Q E →
      ∃ t, PSs (cxOf C P w K mg base N ql sc f cv A out s H E) bd t ∧ t { nx := fun _ H' => Q .non H', rt := Q } (start N vs) H) :
    FnG P w K mg base C (k + 1) f (PySem.W.fnOf nm ql pa bd sc dv kv dc pm an cv ct) ps sp := by
  refine ⟨ln, ?_⟩
  intro A out s H ar us vs Q E hg hr e0 hbd r hsp
  have hlen := ln _ _ _ _ hsp
  have hK : K.In s.heap := e0.mod.kin.keeps (fun b o e => (e0.bs b o e).1)
  have hlim : s.heap.NoLimit := e0.mod.nolimit.keeps (fun b o e => (e0.bs b o e).1)
  have hki : ∀ z ∈ ps.zip us, sc.names.lookup z.1 = some .local ∨ (sc.names.lookup z.1 = some .cell ∧ ((cellsFrom (s.heap.objs.size + 1) sc.names []).lookup z.1).isSome = true) := by
    rintro ⟨n, v⟩ hz
    rcases S.par n (List.of_mem_zip hz).1 with h | h
    · exact Or.inl h
    · exact Or.inr ⟨h, PySem.W.cellsFrom_some _ _ _ (Or.inl h)⟩
  refine codeAny_call_function hr.depth (hK _ _ lk) rfl S.co S.gen rfl (PySem.W.codeRec_of hK hc) (hbd _ _ _ _ ?_)
  refine wpAny_newFunctionEnv_cells S.kind hki (fun en hen sB xi => ?_)
  subst hen
  refine ⟨hlim.keeps xi.toInCall.keep, codeAny_func ?_⟩
  obtain ⟨t, ht, hq⟩ := hb A out s H vs Q E hg (hr.deeper _) hsp
  have J0 : Inv (cxOf C P w K mg base N ql sc f cv A out s H E) [] (start N vs) H sB := inv_start S hr.hd e0 hlen r xi
  refine wpAny_mono (ht.run [] sB (start N vs) H _ J0 hq) (fun fl sE hE => ?_) (fun e sE hE => hE)
  cases fl with
  | ret u =>
    obtain ⟨v, τ, HE, J, rv, q⟩ := hE
    exact ⟨v, HE, J.os, J.bare, J.base, J.hok, rv, q⟩
  | next =>
    obtain ⟨τ, HE, J, q⟩ := hE
    exact ⟨V.non, HE, J.os, J.bare, J.base, J.hok, (rfl : RelV .non Value.none), q⟩
  | brk => exact hE.elim fun _ z => z.elim fun _ z => z.2.elim
  | cont => exact hE.elim fun _ z => z.elim fun _ z => z.2.elim
end
section
variable {P : Program} {w : World} {K : PySem.W.Frag} {mg : Str → Option Value} {base : Heap}
theorem funG {x ql : Str} {st : Stmt} {f : Addr} {fd : FuncData} {N ps : List Str} {k : Nat} {sp : Sp} (F : Fun K x ql st f fd) (S : FnScope N ps (defScope st)) (ln : ∀ vs H Q E, sp vs H Q E → vs.length = ps.length)
    (hb : ∀ (cv : Value) (A : Around) (out : List Env) (s : Shared) (H : Hp) (vs : List V) (Q : VK) (E : XK), A.guards = some [] → Room k (A.deeper (envOfC ql (defScope st) s.heap.objs.size f cv)) → sp vs H Q E →
      ∃ t, PSs (cxOf CX0 P w K mg base N ql (defScope st) f cv A out s H E).nox (defBody st) t ∧ t { nx := fun _ H' => Q .non H', rt := Q } (start N vs) H) : FnG P w K mg base CX0 (k + 1) f fd ps sp := by
  obtain ⟨oc, od, kv, dc, pm, an, cv, ct, sl, rfl, lk, hc⟩ := F.ex
  exact fnG_of lk hc S ln fun A out s H vs Q E hg hr hsp => let ⟨t, h, q⟩ := hb cv A out s H vs Q E hg hr hsp; ⟨t, h.nox, q⟩
end
section
variable {X : Cx} {C : CXT} {k : Nat} {f : Addr} {fd : FuncData} {ps : List Str} {sp : Sp} {dvs : List V} {ds : List Value} {E : XK} {x : Str} {p pos : Pos} {e : Expr} {es : List Expr} {t : TA}
theorem run_G {pins : List (Addr × Obj)} {σ : L2.St} {H : Hp} {s : Shared} {Q : VK} {us : List Value} {vs : List V} (F : FnG X.prog X.w X.K X.mg X.base C k f fd ps sp) (hg : X.A.guards = some []) (hr : Room k X.A) (hb : Binds X.K fd ps ds) (hd : Vals dvs ds) (hx : Passes C X E)
    (I : L2.Inv X pins σ H s) (r : Vals vs us) (h : sp (vs ++ dvs) H Q E) : wpAny (model X.prog X.w) X.A (call (.ref f) us) (EP X pins σ Q) X.xe s := by
  have rr : Vals (vs ++ dvs) (us ++ ds) := r.append hd
  have hl : (us ++ ds).length = ps.length := rr.length.symm.trans (F.ln _ _ _ _ h)
  refine wpAny_call (codeAny_mono (F.go X.A X.stack s H ⟨us, []⟩ (us ++ ds) (vs ++ dvs) Q E hg hr I.env0 (hb s us I.kIn hl) rr h) (fun r sE hE => ?_))
  match r, hE with
  | .error e, hE => exact hx pins σ H s e sE I hE
  | .ok (.ret u), hE => exact I.after hE
theorem pe_callG (F : FnG X.prog X.w X.K X.mg X.base C k f fd ps sp) (hg : X.A.guards = some []) (hr : Room k X.A) (hgl : Gl X x) (hm : X.mg x = some (.ref f)) (hk : PySem.W.keepIn X.K (.ref f) = true) (hb : Binds X.K fd ps ds) (hd : Vals dvs ds) (hx : Passes C X E)
    (ha : PA X (e :: es) t) (hdb : (x == ("__debug__" : Str)) = false := by decide) (he : starEach (e :: es) X.env = (false, eval e X.env) :: starEach es X.env := by rfl) (hpl : (backTo pos (starEach es X.env)).any (·.1) = false := by rfl) :
    PE X (.Call (.Name x p) (e :: es) [] pos) (tCall sp dvs E t) := by
  constructor
  intro pins s σ H Q I h
  refine wpAny_Call_Name_kw (ld_glob I hgl hm ?_ hdb)
  exact PySem.W.callWith_K (h₀ := X.base) I.ok.mod.kin hk (thn (ha.run pos pins s σ H _ I h) (fun us sB ⟨vs, HB, J, r, q⟩ => ⟨J.kIn, run_G F hg hr hb hd hx J r q⟩)) he hpl
end

/-! ## the law's promise at the heap behind the top -/
/-- the modules' dict stands in the ground -/
def Mods (b : Heap) : Prop := ∃ mm, b.Ns sysModules mm
/-- a law that may ask for reprs, from what its def promises -/
theorem law_G {P : Program} {w : World} {K : PySem.W.Frag} {mg mb : Str → Option Value} {C : CXT} {k : Nat} {fa a : Addr} {fd : FuncData} {x : Str} {sp : Sp} {s : Shared} {vs : List Value} {ns : List Int}
    (KX : K.In s.heap) (hmod : Mods s.heap) (hns : s.heap.Ns mainGlobals mg) (hb : s.heap.Ns builtinsNs mb) (hbb : ∀ x : Str, x ≠ "__name__" → mb x = bootBuiltins x) (hlim : s.heap.NoLimit) (hgen : s.gens = #[])
    (ha : s.heap.get? a = some { cls := .type "list", data := .seq vs.toArray }) (hi : IntsAre vs ns) (hl : ns.length ≤ sizeLine) (hr : Room k callerA)
    (F : ∀ b : Heap, K.In b → b.Ns mainGlobals mg → Mods b → FnG P w K mg b C k fa fd [x] sp) (hbind : ∀ (s : Shared) (u : Value), BindsTo s fd ⟨[u], []⟩ [(x, u)])
    (hsp : ∀ H : Hp, Only H → SqL K H a (ns.map V.int) → sp [.ref a] H (fun v _ => v = .bl true) fun _ _ _ => False)
    (hC : ∀ H e s', C [] H s (fun _ _ _ => False) e s' → False) :
    codeAny (model P w) callerA (.call (.ref fa) ⟨[.ref a], []⟩) (fun r s' => r = .ok (.ret (.bool true)) ∧ OldK s.heap s'.heap ∧ s'.os = s.os ∧ AllBare s'.gens) s := by
  have rv := vals_ints hi
  have lv := hi.length
  -- H tracks nothing, or the script alone
  suffices core : ∀ H : Hp, Only H → SqL K H a (ns.map V.int) → HOk P w H s.heap → (∀ b, H b ≠ none → b = a) → (H a ≠ none → K.lookup a = none) →
      codeAny (model P w) callerA (.call (.ref fa) ⟨[.ref a], []⟩) (fun r s' => r = .ok (.ret (.bool true)) ∧ OldK s.heap s'.heap ∧ s'.os = s.os ∧ AllBare s'.gens) s by
    cases hk : K.lookup a with
    | some o =>
      have e := (KX a o hk).symm.trans ha
      cases e
      exact core (fun _ => none) (fun _ => .inl rfl) (.inr ⟨_, vs.toArray, _, hk, rfl, rfl, rfl, by rw [List.size_toArray, lv]; exact hl, by simpa using rv⟩) (fun b u z => nomatch z) (fun b z => absurd rfl z) (fun z => absurd rfl z)
    | none =>
      let o : HO := .frz { cls := .type "list", data := .seq vs.toArray } (.lst (ns.map V.int))
      have at_a : ∀ {b u}, upd (fun _ => none) a o b = some u → b = a ∧ u = o := fun {b u} z => by
        by_cases hba : b = a
        · subst hba
          rw [upd_same] at z
          exact ⟨rfl, (Option.some.inj z).symm⟩
        · rw [upd_ne hba] at z
          exact nomatch z
      have uo : upd (fun _ => none) a o a = some (.frz { cls := .type "list", data := .seq vs.toArray } (.lst (ns.map V.int))) := upd_same
      refine core (upd (fun _ => none) a o) (fun b => ?_) (.inl (.inr ⟨_, uo⟩)) (fun b u z => ?_) (fun b z => ?_) (fun _ => hk)
      · by_cases hba : b = a
        · subst hba
          exact Or.inr ⟨_, _, uo⟩
        · exact .inl (upd_ne hba)
      · obtain ⟨rfl, rfl⟩ := at_a z
        exact ⟨ha, by rw [List.length_map]; exact hl, vs, _, rv, ha⟩
      · cases q : upd (fun _ => none) a o b with
        | none => exact absurd q z
        | some u => exact (at_a q).1
  intro H hO hS hok hA hKa
  have low : ∀ {b : Addr} {o : Obj}, s.heap.get? b = some o → (H b ≠ none → False) → (hidT s.heap H).get? b = some o := fun {b o} e n => by
    refine hidT_get e ?_
    cases q : H b with
    | none => rfl
    | some u => exact (n (by rw [q]; exact nofun)).elim
  have nsK : ∀ {b : Addr} {m : Str → Option Value}, s.heap.Ns b m → (hidT s.heap H).Ns b m := by
    rintro b m ⟨o, es, ep, e, d, r⟩
    refine ⟨o, es, ep, low e (fun n => ?_), d, r⟩
    have eb := hA b n
    subst eb
    have eo := e.symm.trans ha
    cases eo
    cases (show Data.seq vs.toArray _ = Data.dict es ep from d)
  have hKb : K.In (hidT s.heap H) := fun b o e => low (KX b o e) (fun n => by
    have eb := hA b n
    subst eb
    rw [hKa n] at e
    cases e)
  obtain ⟨mc, hm1, hm2⟩ := hlim
  have hM : Mod K mg (hidT s.heap H) := ⟨hKb, nsK hns, ⟨mb, nsK hb, hbb⟩, mc, nsK hm1, hm2⟩
  have e0 : Env0 P w K mg (hidT s.heap H) callerA [] s H := ⟨rfl, hM, fun b o e => of_hidT e, Nat.le_of_eq (hidT_size _ _), trivial, fun b hb => (List.not_mem_nil hb).elim, hok, .of_eq hgen⟩
  refine codeAny_mono ((F _ hKb (nsK hns) (hmod.imp fun mm h => nsK h)).go callerA [] s H ⟨[.ref a], []⟩ [.ref a] [.ref a] _ _ rfl hr e0 (hbind s (.ref a)) (.cons rfl .nil) (hsp H hO hS)) (fun r s' h => ?_)
  match r, h with
  | .error e, h => exact (hC H e s' h).elim
  | .ok (.ret u), h =>
    obtain ⟨v, HE, os, bare, un, hokE, rr, q⟩ := h
    obtain rfl : v = .bl true := q
    obtain rfl : u = Value.bool true := rr
    refine ⟨rfl, OldK.of_keep (fun b o e => ?_), os, bare⟩
    rcases hO b with z | ⟨ob, xs, z⟩
    · exact un.keep b o e z (fun z => (List.not_mem_nil z).elim) (fun z => (List.not_mem_nil z).elim)
    · have e1 := (hok b _ z).1
      have e2 := (hokE b _ (un.frzs b ob _ z)).1
      rw [e] at e1
      cases e1
      exact e2
theorem walk_G {l : PySem.W.OpenLaw} {n k : Nat} {q : Program} {lo : List Str} {XP : (Str → Option Value) → Heap → Prop} {YP : World → Heap → Prop} {d : DefRec} {K : Params → PySem.W.Frag} {C : World → CXT} {sp : World → Sp} {x : Str}
    (hn : l.most = some n) (hz : n ≤ sizeLine) (hi : PyProof.Rows.importsNone q = true) (hdf : d.params.defaults = []) (hr : Room k callerA) (hY : ∀ (w : World) (h : Heap), YP w h → (K w.params).In h)
    (F : ∀ (w : World) (mg : Str → Option Value) (fa : Addr) (h : Heap), (K w.params).In h → h.Ns mainGlobals mg → mg d.name = some (.ref fa) →
      ∃ fd : FuncData, (∀ (s : Shared) (u : Value), BindsTo s fd ⟨[u], []⟩ [(x, u)]) ∧ ∀ b : Heap, (K w.params).In b → b.Ns mainGlobals mg → Mods b → FnG l.prog w (K w.params) mg b (C w) k fa fd [x] (sp w))
    (hsp : ∀ (w : World) (H : Hp) (a : Addr) (ns : List Int), ns.length ≤ n → Only H → SqL (K w.params) H a (ns.map V.int) → sp w [.ref a] H (fun v _ => v = .bl true) fun _ _ _ => False)
    (hC : ∀ (w : World) (H : Hp) (s : Shared) (e : Value) (s' : Shared), C w [] H s (fun _ _ _ => False) e s' → False) :
    PySem.W.WalkO q lo XP YP l.row.toRowW d [] (fun f vs => PySem.call f vs) := by
  refine Att.attach_call hn hdf ?_
  intro w s0 s1 mg mb fa o pm cd doc a vs ns G Y ho hd hcd hmg hob hin hle hgn
  obtain ⟨fd, hb, hF⟩ := F w mg fa _ (hY w _ Y) G.T.g hmg
  exact law_G (hY w _ Y) ((G.T.seer hi).mods.imp fun _ h => h.1) G.T.g G.T.b G.T.builtins G.T.nolimit hgn hob hin (Nat.le_trans hle hz) hr hF hb (fun H hO hS => hsp w H a ns hle hO hS) (fun H e s' => hC w H s1 e s')
end BK

namespace BK
open PySem PySem.Spec PyProof.Rows L2

/-! ## reprs of handed things -/
mutual
def Dt.py : Dt → PyData
  | .non => .none
  | .bl b => .bool b
  | .int i => .int i
  | .str w => .str (tx w)
  | .lst ds => .list (pyAll ds)
  | .tup ds => .tuple (pyAll ds)
  | .dic => .dict []
def pyAll : List Dt → List PyData
  | [] => []
  | d :: ds => d.py :: pyAll ds
end
mutual
/-- what has a short repr; no dict within -/
def Fits : Dt → Prop
  | .non => True
  | .bl _ => True
  | .int i => i.natAbs < 10 ^ 47
  | .str w => ∀ c ∈ w, c < 4294967296
  | .lst ds => FitsAll ds
  | .tup ds => FitsAll ds
  | .dic => False
def FitsAll : List Dt → Prop
  | [] => True
  | d :: ds => Fits d ∧ FitsAll ds
end
mutual
def deep : Dt → Nat
  | .lst ds => deepAll ds + 1
  | .tup ds => deepAll ds + 1
  | .dic => 1
  | _ => 0
def deepAll : List Dt → Nat
  | [] => 0
  | d :: ds => max (deep d) (deepAll ds)
end
mutual
def bulk : Dt → Nat
  | .str w => w.length
  | .lst ds => bulkAll ds
  | .tup ds => bulkAll ds
  | _ => 0
def bulkAll : List Dt → Nat
  | [] => 0
  | d :: ds => bulk d + 1 + bulkAll ds
end
theorem fitsAll_of : ∀ {ds : List Dt}, (∀ d ∈ ds, Fits d) → FitsAll ds
  | [], _ => by unfold FitsAll; trivial
  | d :: ds, h => by unfold FitsAll; exact ⟨h d (List.mem_cons_self ..), fitsAll_of fun x hx => h x (List.mem_cons_of_mem _ hx)⟩
theorem deepAll_le {n : Nat} : ∀ {ds : List Dt}, (∀ d ∈ ds, deep d ≤ n) → deepAll ds ≤ n
  | [], _ => by unfold deepAll; exact Nat.zero_le _
  | d :: ds, h => by
    unfold deepAll
    have h1 := h d (List.mem_cons_self ..)
    have h2 := deepAll_le (n := n) (ds := ds) fun x hx => h x (List.mem_cons_of_mem _ hx)
    omega
theorem bulkAll_le {n : Nat} : ∀ {ds : List Dt}, (∀ d ∈ ds, bulk d ≤ n) → bulkAll ds ≤ ds.length * (n + 1)
  | [], _ => by unfold bulkAll; exact Nat.zero_le _
  | d :: ds, h => by
    unfold bulkAll
    have h1 := h d (List.mem_cons_self ..)
    have h2 := bulkAll_le (n := n) (ds := ds) fun x hx => h x (List.mem_cons_of_mem _ hx)
    rw [List.length_cons, Nat.add_mul, Nat.one_mul]
    omega
mutual
theorem depth_py : ∀ d : Dt, d.py.depth = deep d
  | .non => by simp only [Dt.py, PyData.depth, deep]
  | .bl _ => by simp only [Dt.py, PyData.depth, deep]
  | .int _ => by simp only [Dt.py, PyData.depth, deep]
  | .str _ => by simp only [Dt.py, PyData.depth, deep]
  | .lst ds => by simp only [Dt.py, PyData.depth, deep, depth_all ds]
  | .tup ds => by simp only [Dt.py, PyData.depth, deep, depth_all ds]
  | .dic => by simp only [Dt.py, PyData.depth, PyData.depthKv, deep]
theorem depth_all : ∀ ds : List Dt, PyData.depthAll (pyAll ds) = deepAll ds
  | [] => by simp only [pyAll, PyData.depthAll, deepAll]
  | d :: ds => by simp only [pyAll, PyData.depthAll, deepAll, depth_py d, depth_all ds]
end
mutual
theorem bulk_py : ∀ d : Dt, d.py.bulk = bulk d
  | .non => by simp only [Dt.py, PyData.bulk, bulk]
  | .bl _ => by simp only [Dt.py, PyData.bulk, bulk]
  | .int _ => by simp only [Dt.py, PyData.bulk, bulk]
  | .str w => by simp only [Dt.py, PyData.bulk, bulk, tx, List.size_toArray]
  | .lst ds => by simp only [Dt.py, PyData.bulk, bulk, bulk_all ds]
  | .tup ds => by simp only [Dt.py, PyData.bulk, bulk, bulk_all ds]
  | .dic => by simp only [Dt.py, PyData.bulk, PyData.bulkKv, bulk]
theorem bulk_all : ∀ ds : List Dt, PyData.bulkAll (pyAll ds) = bulkAll ds
  | [] => by simp only [pyAll, PyData.bulkAll, bulkAll]
  | d :: ds => by simp only [pyAll, PyData.bulkAll, bulkAll, bulk_py d, bulk_all ds]
end
theorem int48 {i : Int} (h : i.natAbs < 10 ^ 47) : (PyData.shown (.int i)).length ≤ 48 := by
  show (Str.ofString (toString i)).length ≤ 48
  rw [PySem.ofString_length]
  exact int_text_length_le10 (k := 47) (by decide) h
theorem int_log {i : Int} (h : i.natAbs < 10 ^ 47) : i.natAbs.log2 < 1920 := by
  have h2 : i.natAbs < 2 ^ 160 := Nat.lt_of_lt_of_le h (by decide)
  by_cases h0 : i.natAbs = 0
  · rw [h0]
    decide
  · have := (Nat.log2_lt h0).mpr h2
    omega
mutual
theorem fits_short : ∀ d : Dt, Fits d → d.py.leavesShort 48 = true
  | .non, _ => by simp only [Dt.py, PyData.leavesShort]
  | .bl _, _ => by simp only [Dt.py, PyData.leavesShort]
  | .int i, h => by
    unfold Fits at h
    simp only [Dt.py, PyData.leavesShort, decide_eq_true_eq]
    exact int48 h
  | .str w, h => by
    unfold Fits at h
    simp only [Dt.py, PyData.leavesShort, tx_cps, List.all_eq_true, decide_eq_true_eq]
    exact fun c hc => h c hc
  | .lst ds, h => by
    unfold Fits at h
    simp only [Dt.py, PyData.leavesShort]
    exact fitsAll_short ds h
  | .tup ds, h => by
    unfold Fits at h
    simp only [Dt.py, PyData.leavesShort]
    exact fitsAll_short ds h
  | .dic, h => by unfold Fits at h; exact h.elim
theorem fitsAll_short : ∀ ds : List Dt, FitsAll ds → PyData.leavesShortAll 48 (pyAll ds) = true
  | [], _ => by simp only [pyAll, PyData.leavesShortAll]
  | d :: ds, h => by
    unfold FitsAll at h
    simp only [pyAll, PyData.leavesShortAll, Bool.and_eq_true]
    exact ⟨fits_short d h.1, fitsAll_short ds h.2⟩
end
mutual
theorem fits_show : ∀ d : Dt, Fits d → d.py.showable = true ∧ d.py.hasDict = false
  | .non, _ => by simp only [Dt.py, PyData.showable, PyData.hasDict, and_self]
  | .bl _, _ => by simp only [Dt.py, PyData.showable, PyData.hasDict, and_self]
  | .int i, h => by
    unfold Fits at h
    simp only [Dt.py, PyData.showable, PyData.hasDict, decide_eq_true_eq, and_true]
    exact int_log h
  | .str w, h => by simp only [Dt.py, PyData.showable, PyData.hasDict, and_self]
  | .lst ds, h => by
    unfold Fits at h
    simp only [Dt.py, PyData.showable, PyData.hasDict]
    exact fitsAll_show ds h
  | .tup ds, h => by
    unfold Fits at h
    simp only [Dt.py, PyData.showable, PyData.hasDict]
    exact fitsAll_show ds h
  | .dic, h => by unfold Fits at h; exact h.elim
theorem fitsAll_show : ∀ ds : List Dt, FitsAll ds → PyData.showableAll (pyAll ds) = true ∧ PyData.hasDictAll (pyAll ds) = false
  | [], _ => by simp only [pyAll, PyData.showableAll, PyData.hasDictAll, and_self]
  | d :: ds, h => by
    unfold FitsAll at h
    have h1 := fits_show d h.1
    have h2 := fitsAll_show ds h.2
    simp only [pyAll, PyData.showableAll, PyData.hasDictAll, h1.1, h1.2, h2.1, h2.2, Bool.and_self, Bool.or_self, and_self]
end
section
variable {X : Cx} {pins : List (Addr × Obj)} {σ : L2.St} {H : Hp} {s : Shared}
mutual
theorem reads_at (I : L2.Inv X pins σ H s) : ∀ (d : Dt) (v : V) (u : Value), At X.K H v d → RelV v u → Fits d → ∃ as, Reads s.heap u d.py as
  | .non, v, u, h, r, _ => by
    unfold At at h
    subst h
    cases (show u = Value.none from r)
    simp only [Dt.py]
    exact ⟨_, .none⟩
  | .bl b, v, u, h, r, _ => by
    unfold At at h
    subst h
    cases (show u = Value.bool b from r)
    simp only [Dt.py]
    exact ⟨_, .bool b⟩
  | .int i, v, u, h, r, _ => by
    unfold At at h
    subst h
    obtain ⟨t, rfl⟩ := r
    simp only [Dt.py]
    exact ⟨_, .int i t⟩
  | .str w, v, u, h, r, _ => by
    unfold At at h
    obtain ⟨rfl, _⟩ := h
    obtain ⟨t, rfl⟩ := r
    simp only [Dt.py]
    exact ⟨_, .str _ t⟩
  | .lst ds, v, u, h, r, f => by
    unfold At at h
    unfold Fits at f
    obtain ⟨a, xs, rfl, h1, h2⟩ := h
    cases (show u = Value.ref a from r)
    obtain ⟨its, rv, ⟨o, n, e1, e2, _, e3⟩, _⟩ := I.list h1
    obtain ⟨as, k⟩ := reads_ats I ds xs its h2 rv f
    simp only [Dt.py]
    exact ⟨_, .list e1 e2 e3 (by rw [List.toList_toArray]; exact k)⟩
  | .tup ds, v, u, h, r, f => by
    unfold At at h
    unfold Fits at f
    obtain ⟨a, xs, rfl, h1, h2⟩ := h
    cases (show u = Value.ref a from r)
    obtain ⟨its, rv, ⟨o, e1, e2, n, e3⟩, _⟩ := I.tuple h1
    obtain ⟨as, k⟩ := reads_ats I ds xs its h2 rv f
    simp only [Dt.py]
    exact ⟨_, .tuple e1 e2 e3 (by rw [List.toList_toArray]; exact k)⟩
  | .dic, v, u, h, r, f => by unfold Fits at f; exact f.elim
theorem reads_ats (I : L2.Inv X pins σ H s) : ∀ (ds : List Dt) (vs : List V) (us : List Value), Ats X.K H vs ds → Vals vs us → FitsAll ds → ∃ as, ReadsAll s.heap us (pyAll ds) as
  | [], vs, us, h, r, _ => by
    unfold Ats at h
    subst h
    cases r
    simp only [pyAll]
    exact ⟨_, .nil⟩
  | d :: ds, vs, us, h, r, f => by
    unfold Ats at h
    unfold FitsAll at f
    obtain ⟨v, ws, rfl, h1, h2⟩ := h
    cases r with
    | cons r1 r2 =>
      obtain ⟨a1, k1⟩ := reads_at I d v _ h1 r1 f.1
      obtain ⟨a2, k2⟩ := reads_ats I ds ws _ h2 r2 f.2
      simp only [pyAll]
      exact ⟨_, .cons k1 k2⟩
end
end
/-- a thing's repr -/
def shw (d : Dt) : Str := d.py.shown
def Neat (d : Dt) : Prop := Fits d ∧ deep d ≤ 60 ∧ bulk d ≤ 300000
theorem neat_size {d : Dt} (h : Neat d) : (shw d).length ≤ sizeLine := by
  have h1 := PyData.shown_le_bulk 48 (by decide) d.py (fits_short d h.1)
  rw [bulk_py] at h1
  have h2 : (48 + 2) * bulk d ≤ 50 * 300000 := Nat.mul_le_mul (Nat.le_refl _) h.2.2
  have h3 : sizeLine = 16777216 := by decide
  unfold shw
  omega
def rRepr (K : PySem.W.Frag) : List V → Hp → VK → Prop := fun xs H Q => ∃ (p : Addr) (d : Dt), xs = [.ref p] ∧ At K H (.ref p) d ∧ Neat d ∧ Q (.str (shw d)) H
theorem call_reprG {X : Cx} (hg : X.A.guards = some []) (hu : X.A.units + 64 < cLine) : CallR X (.builtin "repr") (rRepr X.K) := by
  intro pins s σ H xs us Q I r h
  obtain ⟨p, d, rfl, hat, hn, q⟩ := h
  obtain ⟨u, rfl, rp⟩ := vals1 r
  cases (show u = Value.ref p from rp)
  obtain ⟨as, rd⟩ := reads_at I d _ _ hat rfl hn.1
  have hs := fits_show d hn.1
  refine repr_of_reads' rd hs.1 (fun z => absurd z (by rw [hs.2]; exact Bool.false_ne_true)) hg (by rw [depth_py]; have := hn.2.1; omega) (fun _ _ e => e) (fun h' t tk hk => ?_) (neat_size hn)
  exact ⟨.str (shw d), H, I.kept (t' := tk) (fun b o e => hk b o e), ⟨t, rfl⟩, q⟩
end BK

namespace BK
open PySem PySem.Spec PyProof.Rows L2

/-! ## things, lists and tuples not told apart -/
mutual
def norm : Dt → Dt
  | .lst ds => .lst (normAll ds)
  | .tup ds => .lst (normAll ds)
  | .non => .non
  | .bl b => .bl b
  | .int i => .int i
  | .str w => .str w
  | .dic => .dic
def normAll : List Dt → List Dt
  | [] => []
  | d :: ds => norm d :: normAll ds
end
theorem normAll_map : ∀ ds : List Dt, normAll ds = ds.map norm
  | [] => by simp only [normAll, List.map_nil]
  | d :: ds => by simp only [normAll, List.map_cons, normAll_map ds]
mutual
theorem norm_norm : ∀ d : Dt, norm (norm d) = norm d
  | .lst ds => by simp only [norm, normAll_normAll ds]
  | .tup ds => by simp only [norm, normAll_normAll ds]
  | .non => by simp only [norm]
  | .bl b => by simp only [norm]
  | .int i => by simp only [norm]
  | .str w => by simp only [norm]
  | .dic => by simp only [norm]
theorem normAll_normAll : ∀ ds : List Dt, normAll (normAll ds) = normAll ds
  | [] => by simp only [normAll]
  | d :: ds => by simp only [normAll, norm_norm d, normAll_normAll ds]
end
theorem row_norm (d : Dt) : isRow (norm d) = isRow d := by cases d <;> simp only [norm, isRow]
theorem items_norm (d : Dt) : (norm d).items = d.items.map norm := by cases d <;> simp only [norm, Dt.items, normAll_map, List.map_nil]
theorem whole_norm (d : Dt) (lo : Int) : isWhole (norm d) lo = isWhole d lo := by cases d <;> simp only [norm, isWhole]
theorem within_norm (d : Dt) (lo hi : Int) : isWithin (norm d) lo hi = isWithin d lo hi := by cases d <;> simp only [norm, isWithin]
theorem word_norm (d : Dt) : isWord (norm d) = isWord d := by cases d <;> simp only [norm, isWord]
theorem plain_norm (d : Dt) : isPlain (norm d) = isPlain d := by cases d <;> simp only [norm, isPlain]
theorem piece_norm (d : Dt) : isPiece (norm d) = isPiece d := by
  unfold isPiece
  rw [row_norm, items_norm]
  congr 1
  match d.items with
  | [] => rfl
  | [a] => rfl
  | [a, b] =>
    show (isWord (norm a) && isWhole (norm b) 1) = (isWord a && isWhole b 1)
    rw [word_norm, whole_norm]
  | a :: b :: c :: r => rfl
theorem pcOf_norm (d : Dt) : pcOf (norm d) = pcOf d := by
  unfold pcOf
  rw [items_norm]
  match d.items with
  | [] => rfl
  | [a] => cases a <;> simp only [norm, List.map_cons, List.map_nil]
  | [a, b] => cases a <;> cases b <;> simp only [norm, List.map_cons, List.map_nil]
  | a :: b :: c :: r => cases a <;> cases b <;> simp only [norm, List.map_cons]
theorem pieceSize_norm (d : Dt) : pieceSize (norm d) = pieceSize d := by
  unfold pieceSize
  rw [items_norm]
  match d.items with
  | [] => rfl
  | [a] => cases a <;> simp only [norm, List.map_cons, List.map_nil]
  | [a, b] => cases a <;> cases b <;> simp only [norm, List.map_cons, List.map_nil]
  | a :: b :: c :: r => cases a <;> cases b <;> simp only [norm, List.map_cons]
theorem isText_norm (d : Dt) : isText (norm d) = isText d := by
  unfold isText
  rw [row_norm, items_norm, List.length_map, List.all_map, List.map_map]
  have e1 : (isPiece ∘ norm) = isPiece := funext piece_norm
  have e2 : (pieceSize ∘ norm) = pieceSize := funext pieceSize_norm
  rw [e1, e2]
theorem pcs_norm (d : Dt) : pcs (norm d) = pcs d := by
  unfold pcs
  rw [items_norm, List.map_map, show (pcOf ∘ norm) = pcOf from funext pcOf_norm]
theorem isText_like {d e : Dt} (h : norm e = norm d) : isText e = isText d := by rw [← isText_norm, h, isText_norm]
theorem pcs_like {d e : Dt} (h : norm e = norm d) : pcs e = pcs d := by rw [← pcs_norm, h, pcs_norm]
mutual
theorem fits_norm : ∀ d : Dt, Fits (norm d) = Fits d
  | .lst ds => by simp only [norm, Fits, fitsAll_norm ds]
  | .tup ds => by simp only [norm, Fits, fitsAll_norm ds]
  | .non => by simp only [norm]
  | .bl b => by simp only [norm]
  | .int i => by simp only [norm]
  | .str w => by simp only [norm]
  | .dic => by simp only [norm]
theorem fitsAll_norm : ∀ ds : List Dt, FitsAll (normAll ds) = FitsAll ds
  | [] => by simp only [normAll]
  | d :: ds => by simp only [normAll, FitsAll, fits_norm d, fitsAll_norm ds]
end
mutual
theorem deep_norm : ∀ d : Dt, deep (norm d) = deep d
  | .lst ds => by simp only [norm, deep, deepAll_norm ds]
  | .tup ds => by simp only [norm, deep, deepAll_norm ds]
  | .non => by simp only [norm]
  | .bl b => by simp only [norm]
  | .int i => by simp only [norm]
  | .str w => by simp only [norm]
  | .dic => by simp only [norm]
theorem deepAll_norm : ∀ ds : List Dt, deepAll (normAll ds) = deepAll ds
  | [] => by simp only [normAll]
  | d :: ds => by simp only [normAll, deepAll, deep_norm d, deepAll_norm ds]
end
mutual
theorem bulk_norm : ∀ d : Dt, bulk (norm d) = bulk d
  | .lst ds => by simp only [norm, bulk, bulkAll_norm ds]
  | .tup ds => by simp only [norm, bulk, bulkAll_norm ds]
  | .non => by simp only [norm]
  | .bl b => by simp only [norm]
  | .int i => by simp only [norm]
  | .str w => by simp only [norm]
  | .dic => by simp only [norm]
theorem bulkAll_norm : ∀ ds : List Dt, bulkAll (normAll ds) = bulkAll ds
  | [] => by simp only [normAll]
  | d :: ds => by simp only [normAll, bulkAll, bulk_norm d, bulkAll_norm ds]
end
theorem neat_like {d e : Dt} (h : norm e = norm d) (n : Neat d) : Neat e := by
  refine ⟨?_, ?_, ?_⟩
  · rw [← fits_norm, h, fits_norm]
    exact n.1
  · rw [← deep_norm, h, deep_norm]
    exact n.2.1
  · rw [← bulk_norm, h, bulk_norm]
    exact n.2.2

/-! ## new lists all through: their rooms -/
mutual
def AtF (H : Hp) : V → Dt → List Addr → Prop
  | v, .lst ds, fp => ∃ a xs fs, v = .ref a ∧ H a = some (.lst xs) ∧ AtFs H xs ds fs ∧ fp = a :: fs
  | v, .non, fp => v = .non ∧ fp = []
  | v, .bl b, fp => v = .bl b ∧ fp = []
  | v, .int i, fp => v = .int i ∧ fp = []
  | v, .str w, fp => v = .str (tx w) ∧ w.length ≤ 1000000 ∧ fp = []
  | _, .tup _, _ => False
  | _, .dic, _ => False
def AtFs (H : Hp) : List V → List Dt → List Addr → Prop
  | vs, [], fp => vs = [] ∧ fp = []
  | vs, d :: ds, fp => ∃ v us f fs, vs = v :: us ∧ AtF H v d f ∧ AtFs H us ds fs ∧ fp = f ++ fs
end
mutual
theorem AtF.same {H H' : Hp} : ∀ (d : Dt) (v : V) (fp : List Addr), AtF H v d fp → (∀ b o, b ∈ fp → H b = some o → H' b = some o) → AtF H' v d fp
  | .lst ds, v, fp, h, e => by
    unfold AtF at h ⊢
    obtain ⟨a, xs, fs, rfl, h1, h2, rfl⟩ := h
    exact ⟨a, xs, fs, rfl, e _ _ (List.mem_cons_self ..) h1, AtFs.same ds xs fs h2 (fun b o hb => e b o (List.mem_cons_of_mem _ hb)), rfl⟩
  | .non, v, fp, h, e => by unfold AtF at h ⊢; exact h
  | .bl b, v, fp, h, e => by unfold AtF at h ⊢; exact h
  | .int i, v, fp, h, e => by unfold AtF at h ⊢; exact h
  | .str w, v, fp, h, e => by unfold AtF at h ⊢; exact h
  | .tup _, v, fp, h, e => by unfold AtF at h; exact h.elim
  | .dic, v, fp, h, e => by unfold AtF at h; exact h.elim
theorem AtFs.same {H H' : Hp} : ∀ (ds : List Dt) (vs : List V) (fp : List Addr), AtFs H vs ds fp → (∀ b o, b ∈ fp → H b = some o → H' b = some o) → AtFs H' vs ds fp
  | [], vs, fp, h, e => by unfold AtFs at h ⊢; exact h
  | d :: ds, vs, fp, h, e => by
    unfold AtFs at h ⊢
    obtain ⟨v, us, f, fs, rfl, h1, h2, rfl⟩ := h
    exact ⟨v, us, f, fs, rfl, AtF.same d v f h1 (fun b o hb => e b o (List.mem_append_left _ hb)), AtFs.same ds us fs h2 (fun b o hb => e b o (List.mem_append_right _ hb)), rfl⟩
end
mutual
theorem AtF.at {K : PySem.W.Frag} {H : Hp} : ∀ (d : Dt) (v : V) (fp : List Addr), AtF H v d fp → At K H v d
  | .lst ds, v, fp, h => by
    unfold AtF at h
    obtain ⟨a, xs, fs, rfl, h1, h2, rfl⟩ := h
    unfold At
    exact ⟨a, xs, rfl, SqL.of h1, AtFs.at ds xs fs h2⟩
  | .non, v, fp, h => by unfold AtF at h; unfold At; exact h.1
  | .bl b, v, fp, h => by unfold AtF at h; unfold At; exact h.1
  | .int i, v, fp, h => by unfold AtF at h; unfold At; exact h.1
  | .str w, v, fp, h => by unfold AtF at h; unfold At; exact ⟨h.1, h.2.1⟩
  | .tup _, v, fp, h => by unfold AtF at h; exact h.elim
  | .dic, v, fp, h => by unfold AtF at h; exact h.elim
theorem AtFs.at {K : PySem.W.Frag} {H : Hp} : ∀ (ds : List Dt) (vs : List V) (fp : List Addr), AtFs H vs ds fp → Ats K H vs ds
  | [], vs, fp, h => by unfold AtFs at h; unfold Ats; exact h.1
  | d :: ds, vs, fp, h => by
    unfold AtFs at h
    obtain ⟨v, us, f, fs, rfl, h1, h2, rfl⟩ := h
    unfold Ats
    exact ⟨v, us, rfl, AtF.at d v f h1, AtFs.at ds us fs h2⟩
end
theorem AtFs.snoc {H : Hp} {v : V} {d : Dt} {f : List Addr} (hv : AtF H v d f) : ∀ {ds : List Dt} {vs : List V} {fs : List Addr}, AtFs H vs ds fs → AtFs H (vs ++ [v]) (ds ++ [d]) (fs ++ f)
  | [], vs, fs, h => by
    unfold AtFs at h
    obtain ⟨rfl, rfl⟩ := h
    show AtFs H [v] [d] f
    unfold AtFs
    exact ⟨v, [], f, [], rfl, hv, by unfold AtFs; exact ⟨rfl, rfl⟩, (List.append_nil f).symm⟩
  | c :: ds, vs, fs, h => by
    unfold AtFs at h
    obtain ⟨u, us, g, gs, rfl, h1, h2, rfl⟩ := h
    show AtFs H (u :: (us ++ [v])) (c :: (ds ++ [d])) _
    unfold AtFs
    exact ⟨u, us ++ [v], g, gs ++ f, rfl, h1, AtFs.snoc hv h2, List.append_assoc ..⟩
theorem Ats.snoc {K : PySem.W.Frag} {H : Hp} {v : V} {d : Dt} (hv : At K H v d) : ∀ {ds : List Dt} {vs : List V}, Ats K H vs ds → Ats K H (vs ++ [v]) (ds ++ [d])
  | [], vs, h => by
    unfold Ats at h
    subst h
    show Ats K H [v] [d]
    unfold Ats
    exact ⟨v, [], rfl, hv, by unfold Ats; rfl⟩
  | c :: ds, vs, h => by
    unfold Ats at h
    obtain ⟨u, us, rfl, h1, h2⟩ := h
    show Ats K H (u :: (us ++ [v])) (c :: (ds ++ [d]))
    unfold Ats
    exact ⟨u, us ++ [v], rfl, h1, Ats.snoc hv h2⟩

/-! ## isinstance of handed things -/
theorem At.tyx {K : PySem.W.Frag} {H : Hp} {v : V} {d : Dt} (h : At K H v d) : TyX K H v (.type d.ty) := by
  cases d with
  | non => unfold At at h; subst h; exact .base .non
  | bl b => unfold At at h; subst h; exact .base (.bl b)
  | int i => unfold At at h; subst h; exact .base (.int i)
  | str w => unfold At at h; obtain ⟨rfl, _⟩ := h; exact .base (.str _)
  | lst ds =>
    unfold At at h
    obtain ⟨a, xs, rfl, h1, _⟩ := h
    rcases h1 with (h1 | ⟨o, h1⟩) | ⟨o, its, n, h1, h2, _⟩
    · exact .base (.lst h1)
    · exact .base (.frz h1)
    · exact .kList h1 h2
  | tup ds =>
    unfold At at h
    obtain ⟨a, xs, rfl, h1, _⟩ := h
    rcases h1 with (h1 | ⟨o, h1⟩) | ⟨o, its, n, h1, h2, _⟩
    · exact .base (.tup h1)
    · exact .fTuple h1
    · exact .kTuple h1 h2
  | dic => unfold At at h; obtain ⟨a, rfl, h1⟩ := h; exact .base (.dK h1)
theorem kit_known : ∀ y ∈ knownTy, ∀ n ∈ ["list", "tuple", "bool", "str", "int"], kitB y n = some (decide (y = n) || (decide (y = "bool") && decide (n = "int"))) := by decide +kernel
theorem isi_ty {K : PySem.W.Frag} {H : Hp} {v : V} {d : Dt} {n : String} {Q : VK} (h : At K H v d) (hn : n ∈ ["list", "tuple", "bool", "str", "int"]) (q : Q (.bl (decide (d.ty = n) || (decide (d.ty = "bool") && decide (n = "int")))) H) : rIsi K [v, .ty n] H Q :=
  ⟨v, .ty n, .type d.ty, .type n, _, rfl, .ty n, h.tyx, kit_ty (kit_known _ (ty_known d) n hn), q⟩
theorem isRow_ty (d : Dt) : isRow d = (decide (d.ty = "list") || decide (d.ty = "tuple")) := by cases d <;> simp [isRow, Dt.ty]
theorem isi_row {K : PySem.W.Frag} {H : Hp} {v : V} {d : Dt} {t : Addr} {Q : VK} (h : At K H v d) (ht : H t = some (.tup [.ty "list", .ty "tuple"])) (q : Q (.bl (isRow d)) H) : rIsiT K [v, .ref t] H Q := by
  refine ⟨v, t, _, .type d.ty, _, _, rfl, ht, .cons (.ty "list") (.cons (.ty "tuple") .nil), h.tyx, ?_, q⟩
  rw [isRow_ty]
  refine kitAny_cons (kit_ty (kit_known _ (ty_known d) "list" (by decide))) (fun e => ?_) (fun e => ?_)
  · have e1 : decide (d.ty = "list") = false := by
      cases h : decide (d.ty = "list") with
      | false => rfl
      | true => rw [h] at e; cases e
    rw [e1, Bool.false_or]
    refine kitAny_cons (kit_ty (kit_known _ (ty_known d) "tuple" (by decide))) (fun e2 => ?_) (fun e2 => ?_)
    · have e3 : decide (d.ty = "tuple") = false := by
        cases h : decide (d.ty = "tuple") with
        | false => rfl
        | true => rw [h] at e2; cases e2
      rw [e3]
      rfl
    · rw [show (decide ("tuple" = "int")) = false from by decide, Bool.and_false, Bool.or_false] at e2
      exact e2
  · rw [show (decide ("list" = "int")) = false from by decide, Bool.and_false, Bool.or_false] at e
    rw [e]
    rfl

/-! ## rooms apart -/
mutual
theorem AtF.trk {H : Hp} : ∀ (d : Dt) (v : V) (fp : List Addr), AtF H v d fp → ∀ b ∈ fp, ∃ o, H b = some o
  | .lst ds, v, fp, h => by
    unfold AtF at h
    obtain ⟨a, xs, fs, rfl, h1, h2, rfl⟩ := h
    intro b hb
    rcases List.mem_cons.mp hb with rfl | hb
    · exact ⟨_, h1⟩
    · exact AtFs.trk ds xs fs h2 b hb
  | .non, v, fp, h => by unfold AtF at h; obtain ⟨_, rfl⟩ := h; exact fun b hb => (List.not_mem_nil hb).elim
  | .bl b, v, fp, h => by unfold AtF at h; obtain ⟨_, rfl⟩ := h; exact fun b hb => (List.not_mem_nil hb).elim
  | .int i, v, fp, h => by unfold AtF at h; obtain ⟨_, rfl⟩ := h; exact fun b hb => (List.not_mem_nil hb).elim
  | .str w, v, fp, h => by unfold AtF at h; obtain ⟨_, _, rfl⟩ := h; exact fun b hb => (List.not_mem_nil hb).elim
  | .tup _, v, fp, h => by unfold AtF at h; exact h.elim
  | .dic, v, fp, h => by unfold AtF at h; exact h.elim
theorem AtFs.trk {H : Hp} : ∀ (ds : List Dt) (vs : List V) (fp : List Addr), AtFs H vs ds fp → ∀ b ∈ fp, ∃ o, H b = some o
  | [], vs, fp, h => by unfold AtFs at h; obtain ⟨_, rfl⟩ := h; exact fun b hb => (List.not_mem_nil hb).elim
  | d :: ds, vs, fp, h => by
    unfold AtFs at h
    obtain ⟨v, us, f, fs, rfl, h1, h2, rfl⟩ := h
    intro b hb
    rcases List.mem_append.mp hb with hb | hb
    · exact AtF.trk d v f h1 b hb
    · exact AtFs.trk ds us fs h2 b hb
end
/-- the heap without one thing -/
def hid (p : Addr) (H : Hp) : Hp := fun b => if b = p then none else H b
theorem hid_ne {p b : Addr} {H : Hp} (h : b ≠ p) : hid p H b = H b := if_neg h
theorem hid_at {p b : Addr} {H : Hp} {o : HO} (h : hid p H b = some o) : b ≠ p ∧ H b = some o := by
  by_cases e : b = p
  · rw [show hid p H b = none from if_pos e] at h
    cases h
  · exact ⟨e, (if_neg e).symm.trans h⟩
theorem hid_same (p : Addr) (H : Hp) : Same (hid p H) H := fun _ _ h => (hid_at h).2
theorem hid_mono {p : Addr} {H H' : Hp} (e : Same H H') : Same (hid p H) (hid p H') := fun b o h => by
  obtain ⟨h1, h2⟩ := hid_at h
  rw [hid_ne h1]
  exact e b o h2
theorem hid_upd {p t : Addr} {H : Hp} {o : HO} (h : t ≠ p) : hid p (upd H t o) = upd (hid p H) t o := by
  funext b
  by_cases e : b = p
  · subst e
    rw [upd_ne (fun z => h z.symm)]
    show (if b = b then none else _) = (if b = b then none else _)
    rw [if_pos rfl, if_pos rfl]
  · rw [hid_ne e]
    by_cases e2 : b = t
    · subst e2
      rw [upd_same, upd_same]
    · rw [upd_ne e2, upd_ne e2, hid_ne e]
theorem take_norm {ds : List Dt} {i : Nat} {d : Dt} (h : ds[i]? = some d) : (ds.map norm).take (i + 1) = (ds.map norm).take i ++ [norm d] := by
  rw [List.take_add_one, List.getElem?_map, h]
  rfl
theorem mem_deep {d e : Dt} (h : e ∈ d.items) : deep e + 1 ≤ deep d := by
  have key : ∀ ds : List Dt, e ∈ ds → deep e ≤ deepAll ds := by
    intro ds
    induction ds with
    | nil => intro h; cases h
    | cons c ds ih =>
      intro h
      simp only [deepAll]
      rcases List.mem_cons.mp h with rfl | h
      · omega
      · have := ih h
        omega
  cases d with
  | lst ds => have := key ds h; simp only [deep]; omega
  | tup ds => have := key ds h; simp only [deep]; omega
  | _ => cases h
theorem mem_bulk {d e : Dt} (h : e ∈ d.items) : bulk e + 1 ≤ bulk d := by
  have key : ∀ ds : List Dt, e ∈ ds → bulk e + 1 ≤ bulkAll ds := by
    intro ds
    induction ds with
    | nil => intro h; cases h
    | cons c ds ih =>
      intro h
      simp only [bulkAll]
      rcases List.mem_cons.mp h with rfl | h
      · omega
      · have := ih h
        omega
  cases d with
  | lst ds => have := key ds h; simp only [bulk]; omega
  | tup ds => have := key ds h; simp only [bulk]; omega
  | _ => cases h
theorem len_bulk (d : Dt) : d.items.length ≤ bulk d := by
  have key : ∀ ds : List Dt, ds.length ≤ bulkAll ds := by
    intro ds
    induction ds with
    | nil => exact Nat.zero_le _
    | cons c ds ih => simp only [bulkAll, List.length_cons]; omega
  cases d with
  | lst ds => exact key ds
  | tup ds => exact key ds
  | _ => exact Nat.zero_le _
theorem fitsAll_mem : ∀ {ds : List Dt}, FitsAll ds → ∀ {e}, e ∈ ds → Fits e
  | [], _, e, h => by cases h
  | d :: ds, f, e, h => by
    unfold FitsAll at f
    rcases List.mem_cons.mp h with rfl | h
    · exact f.1
    · exact fitsAll_mem f.2 h
theorem mem_fits {d e : Dt} (f : Fits d) (h : e ∈ d.items) : Fits e := by
  cases d with
  | lst ds => unfold Fits at f; exact fitsAll_mem f h
  | tup ds => unfold Fits at f; exact fitsAll_mem f h
  | _ => cases h
theorem leaf_AtF {K : PySem.W.Frag} {H : Hp} {v : V} {d : Dt} (h : At K H v d) (f : Fits d) (hr : isRow d = false) : AtF H v (norm d) [] := by
  cases d with
  | lst ds => cases hr
  | tup ds => cases hr
  | non => unfold At at h; simp only [norm]; unfold AtF; exact ⟨h, rfl⟩
  | bl b => unfold At at h; simp only [norm]; unfold AtF; exact ⟨h, rfl⟩
  | int i => unfold At at h; simp only [norm]; unfold AtF; exact ⟨h, rfl⟩
  | str w => unfold At at h; simp only [norm]; unfold AtF; exact ⟨h.1, h.2, rfl⟩
  | dic => unfold Fits at f; exact f.elim
/-- a comprehension over a row, whatever its items come to; the row stands in G, which stays -/
theorem lc_rowP {K : PySem.W.Frag} {a : Addr} {xs : List V} {tt : TT} {te : TE} {vs : List Nat} {σ : L2.St} {G H : Hp} {Q : VK} {j k : Nat} (hv : σ[j]? = some (some (.ref a))) (hr : Row K G a xs) (hG : Same G H)
    (hw : ∀ x, wipe ((wipe σ vs).set k (some x)) vs = wipe σ vs) (ht : ∀ σ H (R : Bool → Hp → Prop), R true H → tt σ H R)
    (Pv : Addr → Nat → List V → Hp → Prop) (h0 : ∀ D, H D = none → Pv D 0 [] (upd H D (.lst []))) (hk : ∀ D i ys H', Pv D i ys H' → Same G H')
    (hs : ∀ D (i : Nat) (x : V) (ys : List V) (H' : Hp), H D = none → xs[i]? = some x → Pv D i ys H' → te ((wipe σ vs).set k (some x)) H' fun y H4 => ∃ acc, H4 D = some (.lst acc) ∧ acc.length < sizeLine ∧ ∃ ys, Pv D (i + 1) ys (upd H4 D (.lst (acc ++ [y]))))
    (hd : ∀ D ys H', H D = none → Pv D xs.length ys H' → Q (.ref D) H') : tLc (iSeq K (tVar j)) (gName k) tt te vs σ H Q := by
  have st : ∀ D i x H', H D = none → xs[i]? = some x → (∃ ys, Pv D i ys H') → gName k x (wipe σ vs) H' fun σ2 H2 => wipe σ2 vs = wipe σ vs ∧ tt σ2 H2 fun b H3 =>
      if b = true then te σ2 H3 fun y H4 => ∃ acc, H4 D = some (.lst acc) ∧ acc.length < sizeLine ∧ (∃ ys, Pv D (i + 1) ys (upd H4 D (.lst (acc ++ [y])))) else (∃ ys, Pv D (i + 1) ys H3) := by
    intro D i x H' nD hx ⟨ys, hP⟩
    refine ⟨hw x, ht _ _ _ ?_⟩
    rw [if_pos rfl]
    exact hs D i x ys H' nD hx hP
  rcases hr with hr | hr
  · exact .inl ⟨_, hv, a, rfl, ⟨_, hG.seq hr⟩, fun D nD => L2.lc_list (K := K) (a := a) (xs := xs) (fun i H' => ∃ ys, Pv D i ys H') ⟨[], h0 D nD⟩ (fun i H' _ ⟨ys, p⟩ => (hk D i ys H' p).seq hr) (fun i x H' hx p => st D i x H' nD hx p) (fun H' ⟨ys, p⟩ => hd D ys H' nD p)⟩
  · exact .inr ⟨_, hv, a, rfl, ⟨_, sameT hG hr⟩, fun D nD => L2.lc_tup (K := K) (a := a) (xs := xs) (fun i H' => ∃ ys, Pv D i ys H') ⟨[], h0 D nD⟩ (fun i H' _ ⟨ys, p⟩ => sameT (hk D i ys H' p) hr) (fun i x H' hx p => st D i x H' nD hx p) (fun H' ⟨ys, p⟩ => hd D ys H' nD p)⟩
/-- the same with any target -/
theorem lc_rowX {K : PySem.W.Frag} {a : Addr} {xs : List V} {tg : TG} {tt : TT} {te : TE} {vs : List Nat} {σ : L2.St} {G H : Hp} {Q : VK} {j : Nat} (hv : σ[j]? = some (some (.ref a))) (hr : Row K G a xs) (hG : Same G H)
    (Pv : Addr → Nat → Hp → Prop) (h0 : ∀ D, H D = none → Pv D 0 (upd H D (.lst []))) (hk : ∀ D i H', Pv D i H' → Same G H')
    (hs : ∀ D (i : Nat) (x : V) (H' : Hp), H D = none → xs[i]? = some x → Pv D i H' → tg x (wipe σ vs) H' fun σ2 H2 => wipe σ2 vs = wipe σ vs ∧ tt σ2 H2 fun b H3 =>
      if b = true then te σ2 H3 fun y H4 => ∃ acc, H4 D = some (.lst acc) ∧ acc.length < sizeLine ∧ Pv D (i + 1) (upd H4 D (.lst (acc ++ [y]))) else Pv D (i + 1) H3)
    (hd : ∀ D H', H D = none → Pv D xs.length H' → Q (.ref D) H') : tLc (iSeq K (tVar j)) tg tt te vs σ H Q := by
  rcases hr with hr | hr
  · exact .inl ⟨_, hv, a, rfl, ⟨_, hG.seq hr⟩, fun D nD => L2.lc_list (K := K) (a := a) (xs := xs) (fun i H' => Pv D i H') (h0 D nD) (fun i H' _ p => (hk D i H' p).seq hr) (fun i x H' hx p => hs D i x H' nD hx p) (fun H' p => hd D H' nD p)⟩
  · exact .inr ⟨_, hv, a, rfl, ⟨_, sameT hG hr⟩, fun D nD => L2.lc_tup (K := K) (a := a) (xs := xs) (fun i H' => Pv D i H') (h0 D nD) (fun i H' _ p => sameT (hk D i H' p) hr) (fun i x H' hx p => hs D i x H' nD hx p) (fun H' p => hd D H' nD p)⟩
theorem hid_none {p b : Addr} {H : Hp} (h : H b = none) : hid p H b = none := by
  by_cases e : b = p
  · exact if_pos e
  · rw [hid_ne e]
    exact h
theorem hid_hid {D : Addr} {H : Hp} {o : HO} : hid D (upd H D o) = hid D H := by
  funext b
  by_cases e : b = D
  · subst e
    show (if b = b then none else _) = (if b = b then none else _)
    rw [if_pos rfl, if_pos rfl]
  · rw [hid_ne e, hid_ne e, upd_ne e]
end BK

namespace BK
open PySem PySem.Spec PyProof.Rows L2
/-! ## [u, v][::k], k 1 or -1 -/
def tStp (K : PySem.W.Frag) (te tk : TE) : TE := fun σ H Q => te σ H fun x H1 => tPart tk σ H1 fun o H2 => ∃ (a : Addr) (u v : V) (k : Int), x = .ref a ∧ o = some k ∧ SqL K H2 a [u, v] ∧ (k = 1 ∨ k = -1) ∧ ∀ p, H2 p = none → Q (.ref p) (upd H2 p (.lst (if k = 1 then [u, v] else [v, u])))
theorem pick_two (a b : Value) : slicePick #[a, b] none none (some 1) = #[a, b] := by
  unfold slicePick
  show ((sliceRange 0 2 1).filterMap (#[a, b][·]?)).toArray = _
  rw [show sliceRange (0 : Int) 2 1 = [0, 1] from by decide]
  rfl
theorem pick_two' (a b : Value) : slicePick #[a, b] none none (some (-1)) = #[b, a] := by
  rw [PySem.W.krv_pick]
  rfl
theorem pe_stp {X : Cx} {e st : Expr} {te tk : TE} {p3 pos : Pos} (he : PE X e te) (hk : PE X st tk) (ht : ∀ v u : Value, subscripted (.Slice none none (some st) p3) false v u = operate [v, u] (getItem v u)) : PE X (.Subscript e (.Slice none none (some st) p3) pos) (tStp X.K te tk) := by
  refine ⟨fun pins s σ H Q I h => Subscript_ (thn (he.run pins s σ H _ I h) fun w s1 ⟨x, H1, J1, r1, q1⟩ => ?_)⟩
  have nn : ∀ {s' : Shared} {G : Hp}, L2.Inv X pins σ G s' → ∀ {R : Value → Shared → Prop}, (∀ pv s2, IsPart pv none → L2.Inv X pins σ G s2 → R pv s2) → wpAny (model X.prog X.w) X.A (evalPart none X.env) R X.xe s' := fun {s' G} J {R} k =>
    thn (po_none.run pins s' σ G (fun o G2 => o = none ∧ G2 = G) J ⟨rfl, rfl⟩) fun pv s2 ⟨l, G2, J2, pl, el, e2⟩ => by
      subst el e2
      exact k pv s2 pl J2
  refine wpAny_Slice (nn J1 fun vl s2 pl J2 => nn J2 fun vu s3 pu J3 => ?_)
  refine thn ((po_some hk).run pins s3 σ H1 _ J3 q1) fun vk s4 ⟨o, H2, J4, pk, a, u, v, k, ex, ek, hsq, hkk, q⟩ => ?_
  subst ex ek
  cases (show w = Value.ref a from r1)
  have J5 : L2.Inv X pins σ H2 { s4 with heap := s4.heap.push { cls := .type "slice", data := .fields #[vl, vu, vk] } } := J4.kept (t' := s4.toks) (fun _ _ z => Heap.get?_push_of_some _ z)
  obtain ⟨its, rv, pl2, hz⟩ := J5.list hsq
  obtain ⟨a1, a2, rfl, v1, v2⟩ := vals2 rv
  refine tail_any (ops := [Value.ref a, Value.ref s4.heap.objs.size]) pl2.isList.typeIs PySem.slot_list_getitem.lookup ?_ (ht _ _)
  refine wpAny_getItem_list_slice pl2.isList (Heap.IsSliceOf.new _ vl vu vk) pl pu pk (by rcases hkk with rfl | rfl <;> decide) ?_ (by show 2 ≤ sizeLine; decide)
  have fin : ∀ (ys : List V) (us : List Value), ys.length = 2 → Vals ys us → (∀ p, H2 p = none → Q (.ref p) (upd H2 p (.lst ys))) → EP X pins σ Q (.ref (s4.heap.push { cls := .type "slice", data := .fields #[vl, vu, vk] }).objs.size) { s4 with heap := (s4.heap.push { cls := .type "slice", data := .fields #[vl, vu, vk] }).push { cls := .type "list", data := .seq us.toArray } } := fun ys us hl r k =>
    ⟨.ref _, _, J5.laid (t' := s4.toks) (o := .lst ys) (fun _ _ z => Heap.get?_push_of_some _ z) (Nat.le_refl _) ⟨by rw [hl]; decide, us, 0, r, Heap.get?_push_size _ rfl⟩, rfl, k _ (J5.hok.fresh (Nat.le_refl _))⟩
  rcases hkk with rfl | rfl
  · rw [show [a1, a2].toArray = #[a1, a2] from rfl, pick_two]
    exact fin [u, v] [a1, a2] rfl (.cons v1 (.cons v2 .nil)) q
  · rw [show [a1, a2].toArray = #[a1, a2] from rfl, pick_two']
    exact fin [v, u] [a2, a1] rfl (.cons v2 (.cons v1 .nil)) q
end BK

namespace BK
open PySem PySem.Spec PyProof.Rows L2
section
variable {K : PySem.W.Frag} {X : Cx}
theorem sl_listK (hK : X.K = K := by rfl) : SlR X (rSlL K) := hK ▸ sl_list
def rTupOf (K : PySem.W.Frag) : List V → Hp → VK → Prop := fun xs H Q => ∃ p ys, xs = [.ref p] ∧ ((SqL K H p ys ∧ ∀ l, H l = none → Q (.ref l) (upd H l (.tup ys))) ∨ (SqT K H p ys ∧ Q (.ref p) H))
theorem call_tuple_ofK (hK : X.K = K := by rfl) : CallR X (.type "tuple") (rTupOf K) := by
  subst hK
  exact call_tuple_of
theorem op_notIn_seqK (hK : X.K = K := by rfl) : OpR X (compareOp CmpOp.NotIn) (rIn K true) := hK ▸ op_notIn_seq
def rListS : List V → Hp → VK → Prop := fun xs H Q => ∃ x : Str, xs = [.str x] ∧ x.cps.size ≤ sizeLine ∧ ∀ p, H p = none → Q (.ref p) (upd H p (.lst (x.cps.toList.map fun c => V.str (tx [c]))))
def rListOf (K : PySem.W.Frag) : List V → Hp → VK → Prop := fun xs H Q => ∃ p ys, xs = [.ref p] ∧ (SqL K H p ys ∨ SqT K H p ys) ∧ ∀ l, H l = none → Q (.ref l) (upd H l (.lst ys))
theorem call_or {f : Value} {r1 r2 : List V → Hp → VK → Prop} (h1 : CallR X f r1) (h2 : CallR X f r2) : CallR X f (fun xs H Q => r1 xs H Q ∨ r2 xs H Q) := by
  intro pins s σ H xs us Q I r h
  rcases h with h | h
  · exact h1 pins s σ H xs us Q I r h
  · exact h2 pins s σ H xs us Q I r h
theorem call_list_any (hc : X.calm = true) (hK : X.K = K := by rfl) : CallR X (.type "list") (fun xs H Q => rListS xs H Q ∨ rListOf K xs H Q) := by
  subst hK
  exact call_or (call_listS hc) call_list_of
end
end BK

/-! enumerate over a tuple -/
namespace PySem
open Sem (wp)
/-- enumerate of what begins as told: its two new cells -/
theorem enumNewOf {v : Value} {o : Obj} {Hs : Heap → Prop} (bg : Begins v o Hs) :
    Meets (Builtin.«enumerate.__new__» ⟨[.type "enumerate", v], []⟩) fun _ R s => Hs s.heap ∧
      R (.ok (.ret (.ref (s.heap.push o).objs.size)))
        { s with heap := (s.heap.push o).push { cls := .type "enumerate", data := .fields #[.none, .bool false, .ref s.heap.objs.size, rawInt 0, .none, .none] } } :=
  .of_wp fun prog w A R s hyp => by
    obtain ⟨hp, g, d, tk, os⟩ := s
    obtain ⟨beg, hR⟩ := hyp
    have isSub := sub_enumerate
    have itr : ∀ {A1 : Around} {E1 : Value → Shared → Prop} {Q1 : Value → Shared → Prop}, Q1 (.ref hp.objs.size) ⟨hp.push o, g, d, tk, os⟩ → wpAny (model prog w) A1 (pyIter v) Q1 E1 ⟨hp, g, d, tk, os⟩ :=
      fun z => bg.iter prog w _ _ ⟨hp, g, d, tk, os⟩ _ beg z
    wp_walk using itr
    refine wpAny_stack_any fun _ => wpAny_pure ?_
    split
    · rename_i c _ _ _ _ _
      cases (c == Value.type "enumerate") <;> (wp_walk using itr; exact ⟨_, rfl, hR⟩)
    · wp_walk using itr
      exact ⟨_, rfl, hR⟩
theorem enumCall {prog : Program} {w : World} {A : Around} {E : Value → Shared → Prop} {s : Shared} {v : Value} {o : Obj} {Hs : Heap → Prop} {Q : Value → Shared → Prop} (bg : Begins v o Hs) (beg : Hs s.heap)
    (h : ∀ h', IsEnum h' (s.heap.objs.size + 1) s.heap.objs.size 0 .none → h'.get? s.heap.objs.size = some o →
      (∀ b u, s.heap.get? b = some u → h'.get? b = some u) → Q (.ref (s.heap.objs.size + 1)) { s with heap := h' }) :
    wpAny (model prog w) A (call (.type "enumerate") [v]) Q E s := by
  refine callType_new F.called_enumerate (by decide) (F.typeCall_enumerate_1 _) (F.newCall_enumerate_1 _)
    (fun ob => F.args_object_init_2 ob _) F.entry_enumerate_new (enumNewOf bg) ⟨beg, ?_⟩
  have two : (s.heap.push o).objs.size = s.heap.objs.size + 1 := Heap.size_push ..
  show _ ∧ _
  rw [two]
  have en := Heap.get?_push_size (s.heap.push o) (o := { cls := .type "enumerate", data := .fields #[.none, .bool false, .ref s.heap.objs.size, rawInt 0, .none, .none] }) rfl
  rw [two] at en
  exact ⟨⟨_, en, rfl⟩, h _ en (Heap.get?_push_of_some _ (Heap.get?_push_size _ bg.free)) fun b u z => Heap.get?_push_of_some _ (Heap.get?_push_of_some _ z)⟩
end PySem
namespace BK
open PySem PySem.Spec PyProof.Rows L2
/-- the tuple at a, each item in a new pair -/
def IteT (K : PySem.W.Frag) (a : Addr) : It where
  go := fun i H => ∃ (xs : List V) (x : V), SqT K H a xs ∧ xs[i]? = some x
  yld := fun i H v H' => ∃ T x, v = .ref T ∧ H T = none ∧ H' = upd H T (.tup [.int (i : Nat), x]) ∧ ∀ xs, SqT K H a xs → xs[i]? = some x
  stop := fun i H => ∃ xs : List V, SqT K H a xs ∧ xs.length ≤ i
/-- its two cells behind i items -/
def EnTn (e it a : Addr) (i : Nat) (h : Heap) : Prop := (∃ o, IsEnum h e it ((i : Nat) : Int) o) ∧ h.IsTupleIter it a i ∧ e ≠ it
theorem tupApart {h : Heap} {it a : Addr} {i : Nat} {us : Array Value} (h1 : h.IsTupleIter it a i) (h2 : h.IsTuple a us) : a ≠ it := fun z => by
  subst z
  obtain ⟨o, e1, c1, _⟩ := h1
  obtain ⟨u, e2, c2, _⟩ := h2
  rw [e1] at e2
  cases e2
  rw [c1] at c2
  injection c2 with z
  exact absurd z (by decide)
theorem enApart {h : Heap} {e it a : Addr} {k : Int} {old : Value} {us : Array Value} (h1 : IsEnum h e it k old) (h2 : h.IsTuple a us) : e ≠ a := fun z => by
  subst z
  obtain ⟨u, e2, c2, _⟩ := h2
  rw [show h.get? e = _ from h1] at e2
  cases e2
  injection c2 with z
  exact absurd z (by decide)
theorem turnEnT {P : Program} {w : World} {K : PySem.W.Frag} {elts : List Expr} {kk : Nat} {tpos : Pos} (a e it : Addr) : Turn P w K (.Tuple elts kk tpos) (IteT K a) [e, it] e (EnTn e it a) := by
  have two : ∀ {b : Addr}, b ∈ [e, it] → b = e ∨ b = it := fun hb => by simpa using hb
  refine ⟨by simp, fun i h st b hb => ?_, fun i h h' st kp => ?_, ?_, ?_, fun A i s Q E st q => ?_⟩
  · obtain ⟨⟨old, en⟩, ⟨o, ho, hc, hd⟩, _⟩ := st
    rcases two hb with rfl | rfl
    · exact ⟨_, en, fun v q => nomatch q⟩
    · exact ⟨o, ho, fun v q => by rw [hd] at q; cases q⟩
  · obtain ⟨⟨old, en⟩, ti, ne⟩ := st
    exact ⟨⟨old, kp e (by simp) _ en⟩, ti.at fun o q => kp it (by simp) o q, ne⟩
  · intro Y e1 e2 e3 calm j pn sh σ G Er J fr st go
    subst e1 e2 e3
    obtain ⟨⟨old, en⟩, ti, ne⟩ := st
    obtain ⟨xs, x, sq, hx⟩ := go
    obtain ⟨us, rel, isT, hz⟩ := J.tuple sq
    obtain ⟨u, hu, ru⟩ := rel.get hx
    have isT : sh.heap.IsTuple a us.toArray := isT
    have ae := enApart en isT
    have el : e < sh.heap.objs.size := Heap.lt_size en
    have jl : j < us.toArray.size := by
      have := (List.getElem?_eq_some_iff.mp hu).1
      simpa using this
    have dr := Draws.tuple (prog := Y.prog) (w := Y.w) (A := Y.A.in1) (show Y.A.in1.handled = none from J.ok.hd calm) it a (tupApart ti isT) us.toArray
    refine wpAny_pyNext_enum_itemD dr en ⟨ti, isT⟩ jl ne (by simp [ne, ae]) fun y h1 tk hy out st1 tup sz kp => ?_
    have hyu : y = u := by
      have h2 : us.toArray[j]? = some u := by simpa using hu
      rw [h2] at hy
      exact (Option.some.inj hy).symm
    subst hyu
    refine ⟨_, rfl, wpAny_letOwnedTupleGo_enum (s := { sh with heap := h1, toks := tk + 1 }) out fun h2 en2 sb => ?_⟩
    have tup2 : h2.get? sh.heap.objs.size = some { cls := .type "tuple", data := .seq #[.int j tk, y] } := (sb.2 _ (Nat.ne_of_gt el)).trans tup
    have made : ObjOk Y.prog Y.w (upd G sh.heap.objs.size (.tup [.int (j : Nat), x])) h2 sh.heap.objs.size (.tup [.int (j : Nat), x]) :=
      ⟨by show 2 ≤ sizeLine; decide, [.int j tk, y], .cons ⟨_, rfl⟩ (.cons ru .nil), ⟨_, tup2, rfl, _, rfl⟩⟩
    have J1 : L2.Inv Y pn σ (upd G sh.heap.objs.size (.tup [.int (j : Nat), x])) { sh with heap := h2, toks := tk + 1 } :=
      J.turnedNew (ch := [e, it]) (fun b o hb q => (sb.2 b (fun z => hb (by simp [z]))).trans (kp b o (fun z => hb (by simp [z])) (fun z => hb (by simp [z])) q)) fr (Nat.le_refl _) made
    have nx : (j : Int) + 1 = ((j + 1 : Nat) : Int) := by omega
    refine ⟨.ref sh.heap.objs.size, _, J1, rfl, ⟨_, x, rfl, J.hok.fresh (Nat.le_refl _), rfl, fun ys hy => by rw [J.tuple_inj hy sq]; exact hx⟩, ⟨⟨y, ?_⟩, st1.1.at fun o q => (sb.2 it (Ne.symm ne)).trans q, ne⟩, fun b hb => ?_⟩
    · rw [← nx]
      exact en2
    · have il : it < sh.heap.objs.size := by
        obtain ⟨_, q, _⟩ := ti
        exact Heap.lt_size q
      have bl : b < sh.heap.objs.size := by
        rcases two hb with z | z
        · rw [z]; exact el
        · rw [z]; exact il
      rw [upd_ne (Nat.ne_of_lt bl)]
      exact (fr b hb).1
  · intro Y e1 e2 e3 calm j pn sh σ G Er J fr st fin
    subst e1 e2 e3
    obtain ⟨⟨old, en⟩, ti, ne⟩ := st
    obtain ⟨xs, sq, hx⟩ := fin
    obtain ⟨us, rel, isT, hz⟩ := J.tuple sq
    have isT : sh.heap.IsTuple a us.toArray := isT
    have hl := rel.length
    obtain ⟨f0, f1, f2, f3, f4, f5⟩ := fr it (by simp)
    have T : sh.TypeIs (.ref e) "enumerate" := ⟨_, en, rfl⟩
    unfold pyNext
    refine wpAny_bind (wpAny_attempt (wpAny_callSpecial?_slot (name := Str.ofString "__next__") T F.slot_enumerate_next (wpAny_call_entry F.slot_enumerate_next T F.entry_enumerate_next ?_ (F.args_enumerate_next_1 _))))
    show wpAny _ _ (field (.ref e) 2 >>= _) _ _ _
    refine wpAny_bind (wpAny_field en rfl (x := .ref it) rfl ?_)
    refine wpAny_bind (wpAny_nextOf_tuple_end (show Y.A.in1.handled = none from J.ok.hd calm) ti isT (by simp; omega) fun h' x kp cl => ?_)
    obtain ⟨o, ho, hc⟩ := cl
    refine wpAny_bind (wpAny_isInstance (T := "StopIteration") (b := true) ⟨o, ho, hc⟩ isSubtype_stop ?_)
    exact wpAny_pure ⟨rfl, J.turned (t' := sh.toks) (fun b o hb q => kp b o hb q) f0 f1 f3 f4 f5⟩
  · obtain ⟨⟨_, en⟩, _⟩ := st
    exact wpAny_pyIter_enum en q
/-- enumerate of a list or a tuple -/
def iEnumR (K : PySem.W.Frag) (ta : TA) : TI := fun σ H R => ta σ H fun vs H1 => ∃ a xs, vs = [.ref a] ∧ ((SqL K H1 a xs ∧ R (Ite K a) H1) ∨ (SqT K H1 a xs ∧ R (IteT K a) H1))
theorem pi_enumR {X : Cx} {e : Expr} {ta : TA} {p pos tpos : Pos} {elts : List Expr} {kk : Nat} (gl : Gl X "enumerate") (mn : X.mg "enumerate" = none) (ha : PA X [e] ta) (hs : starEach [e] X.env = [(false, eval e X.env)] := by rfl) :
    PI X (.Tuple elts kk tpos) (.Call (.Name "enumerate" p) [e] [] pos) (iEnumR X.K ta) := by
  refine ⟨fun pn sh σ G R J h => ?_⟩
  refine Call_ (ld_blt J gl mn boot_enumerate (PyProof.Rows.callWith_type1 (thn (ha.run pos pn sh σ G _ J h) fun us s1 ⟨vs, G1, J1, r1, q1⟩ => ?_) hs rfl))
  obtain ⟨a, xs, ex, q⟩ := q1
  subst ex
  obtain ⟨u, rfl, ru⟩ := vals1 r1
  cases (show u = Value.ref a from ru)
  have fp : ∀ b ∈ [s1.heap.objs.size + 1, s1.heap.objs.size], FpOk X pn G1 b := fun b hb => by
    have le : s1.heap.objs.size ≤ b := by
      have : b = s1.heap.objs.size + 1 ∨ b = s1.heap.objs.size := by simpa using hb
      omega
    exact J1.fpOk le (J1.hok.fresh le)
  rcases q with ⟨sq, q⟩ | ⟨sq, q⟩
  · obtain ⟨its, rel, isL, hz⟩ := J1.list sq
    refine enumCall (begins_list a its.toArray) isL.isList fun h' en it kp => wpAny_pyIter_enum en ?_
    exact ⟨_, [s1.heap.objs.size + 1, s1.heap.objs.size], _, _, G1, rfl, J1.kept (t' := s1.toks) kp, turn_enum a (s1.heap.objs.size + 1) s1.heap.objs.size, ⟨⟨.none, en⟩, ⟨_, it, rfl, rfl⟩, Nat.succ_ne_self _⟩, fp, q⟩
  · obtain ⟨its, rel, isT, hz⟩ := J1.tuple sq
    refine enumCall (begins_tuple a its.toArray) isT fun h' en it kp => wpAny_pyIter_enum en ?_
    exact ⟨_, [s1.heap.objs.size + 1, s1.heap.objs.size], _, _, G1, rfl, J1.kept (t' := s1.toks) kp, turnEnT a (s1.heap.objs.size + 1) s1.heap.objs.size, ⟨⟨.none, en⟩, ⟨_, it, rfl, rfl⟩, Nat.succ_ne_self _⟩, fp, q⟩
theorem walkEnT {K : PySem.W.Frag} {a : Addr} {xs : List V} : Walk (IteT K a) xs.length (fun H => SqT K H a xs) (YPair (fun i => some (.int (i : Nat))) (fun i => xs[i]?)) := by
  refine ⟨fun i _ lt t => ⟨xs, xs[i], t, by simp [lt]⟩, fun _ t => ⟨xs, t, Nat.le_refl _⟩, fun i H v H' _ t y => ?_⟩
  obtain ⟨T, x, y1, y2, y3, y4⟩ := y
  exact ⟨T, .int (i : Nat), x, y1, y2, y3, rfl, y4 xs t⟩
/-- a walk with numbers over a list or a tuple -/
theorem for_enumR {K : PySem.W.Frag} {g : TG} {tb : TS} {D : Ends} {σ : L2.St} {H00 H : Hp} {a : Addr} {xs : List V} (row : Row K H00 a xs) (s0 : Same H00 H) (Pv : Nat → L2.St → Hp → Prop) (h0 : Pv 0 σ H) (hG : ∀ i σ H', i ≤ xs.length → Pv i σ H' → Same H00 H')
    (hs : ∀ i x σ H' T, xs[i]? = some x → H' T = none → Pv i σ H' → g (.ref T) σ (upd H' T (.tup [.int (i : Nat), x])) fun σ2 H2 => tb { D with nx := Pv (i + 1), ct := Pv (i + 1), bk := D.nx } σ2 H2) (hd : ∀ σ H', Pv xs.length σ H' → D.nx σ H') :
    (SqL K H a xs ∧ ForGo (Ite K a) g tb D σ H) ∨ (SqT K H a xs ∧ ForGo (IteT K a) g tb D σ H) := by
  rcases row with r | r
  · refine .inl ⟨s0.seq r, for_it (walk_enum (K := K) (a := a) (xs := xs)) Pv h0 (fun i σ H' hi p => (hG i σ H' hi p).seq r) (fun i v σ H' H2 hi p ⟨T, x, y, e1, e2, e3, e4, e5⟩ => ?_) hd⟩
    subst e1 e3
    cases Option.some.inj e4
    exact hs i y σ H' T e5 e2 p
  · refine .inr ⟨sameT s0 r, for_it (walkEnT (K := K) (a := a) (xs := xs)) Pv h0 (fun i σ H' hi p => sameT (hG i σ H' hi p) r) (fun i v σ H' H2 hi p ⟨T, x, y, e1, e2, e3, e4, e5⟩ => ?_) hd⟩
    subst e1 e3
    cases Option.some.inj e4
    exact hs i y σ H' T e5 e2 p
theorem fr_enumR {K : PySem.W.Frag} {ta : TA} {g : TG} {tb : TS} {D : Ends} {σ : L2.St} {H : Hp} (h : ta σ H fun us H1 => ∃ a xs, us = [.ref a] ∧ ((SqL K H1 a xs ∧ ForGo (Ite K a) g tb D σ H1) ∨ (SqT K H1 a xs ∧ ForGo (IteT K a) g tb D σ H1))) : tFor (iEnumR K ta) g tb D σ H := h
end BK

namespace BK
open PySem PySem.Spec PyProof.Rows L2

/-! # worths and cells: things that stay are told whole; what may change is told by its cell -/
inductive W where
  | d (x : Dt) | o (i : Nat)
inductive Cell where
  | lst (ws : List W) | tup (ws : List W) | dK (kvs : List (Key × W)) | dT (kvs : List (List Key × W)) | ins (c : Addr) (fs : List (Str × W)) | fz
abbrev Cs := List Cell
abbrev Ws := List (Option W)
/-- hidden: an address of a cell that is not frozen -/
def Hid (ad : List Addr) (C : Cs) (b : Addr) : Prop := ∃ (i : Nat) (c : Cell), ad[i]? = some b ∧ C[i]? = some c ∧ c ≠ Cell.fz
open Classical in
noncomputable def low (ad : List Addr) (C : Cs) (H : Hp) : Hp := fun b => if Hid ad C b then none else H b
theorem low_at {ad : List Addr} {C : Cs} {H : Hp} {b : Addr} {o : HO} (h : low ad C H b = some o) : ¬ Hid ad C b ∧ H b = some o := by
  unfold low at h
  split at h
  · cases h
  · exact ⟨by assumption, h⟩
theorem low_of {ad : List Addr} {C : Cs} {H : Hp} {b : Addr} (h : ¬ Hid ad C b) : low ad C H b = H b := by
  unfold low
  rw [if_neg h]
theorem low_same (ad : List Addr) (C : Cs) (H : Hp) : Same (low ad C H) H := fun _ _ h => (low_at h).2
def RepW (K : PySem.W.Frag) (L : Hp) (ad : List Addr) (v : V) : W → Prop
  | .d x => At K L v x
  | .o i => ∃ a, ad[i]? = some a ∧ v = .ref a
abbrev RepWs (K : PySem.W.Frag) (L : Hp) (ad : List Addr) : List V → List W → Prop := Paired (RepW K L ad)
def RepC (K : PySem.W.Frag) (L : Hp) (ad : List Addr) (H : Hp) (a : Addr) : Cell → Prop
  | .lst ws => ∃ vs, H a = some (.lst vs) ∧ RepWs K L ad vs ws
  | .tup ws => ∃ vs, H a = some (.tup vs) ∧ RepWs K L ad vs ws
  | .dK kvs => ∃ ks, H a = some (.dK ks) ∧ Paired (fun p q => p.1 = q.1 ∧ RepW K L ad p.2 q.2) ks kvs
  | .dT kvs => ∃ ks, H a = some (.dT ks) ∧ Paired (fun p q => p.1 = q.1 ∧ RepW K L ad p.2 q.2) ks kvs
  | .ins c fs => ∃ dx gs, H a = some (.ins c dx gs) ∧ Paired (fun p q => p.1 = q.1 ∧ RepW K L ad p.2 q.2) gs fs
  | .fz => True
structure HeapR (K : PySem.W.Frag) (ad : List Addr) (C : Cs) (H : Hp) : Prop where
  len : ad.length = C.length
  nd : ∀ (i j : Nat) a, ad[i]? = some a → ad[j]? = some a → i = j
  tr : ∀ (i : Nat) a, ad[i]? = some a → H a ≠ none
  rep : ∀ (i : Nat) a c, ad[i]? = some a → C[i]? = some c → RepC K (low ad C H) ad H a c
structure Grw (ad : List Addr) (C : Cs) (H : Hp) (ad' : List Addr) (C' : Cs) (H' : Hp) : Prop where
  pre : ∀ (i : Nat) a, ad[i]? = some a → ad'[i]? = some a
  low : Same (low ad C H) (low ad' C' H')
section
variable {K : PySem.W.Frag} {L L' H H' H1 H2 : Hp} {ad ad' ad1 ad2 : List Addr} {C C' C1 C2 : Cs}
theorem Grw.refl : Grw ad C H ad C H := ⟨fun _ _ h => h, Same.refl _⟩
theorem Grw.trans (a : Grw ad C H ad1 C1 H1) (b : Grw ad1 C1 H1 ad2 C2 H2) : Grw ad C H ad2 C2 H2 := ⟨fun i x h => b.pre i x (a.pre i x h), a.low.trans b.low⟩
theorem RepW.mono {v : V} {w : W} (h : RepW K L ad v w) (e : Same L L') (p : ∀ (i : Nat) a, ad[i]? = some a → ad'[i]? = some a) : RepW K L' ad' v w := by
  cases w with
  | d x => exact At.same e x v h
  | o i => obtain ⟨a, h1, h2⟩ := h; exact ⟨a, p i a h1, h2⟩
theorem RepW.grw {v : V} {w : W} (h : RepW K (low ad C H) ad v w) (g : Grw ad C H ad' C' H') : RepW K (low ad' C' H') ad' v w := h.mono g.low g.pre
theorem RepWs.mono {vs : List V} {ws : List W} (h : RepWs K L ad vs ws) (e : Same L L') (p : ∀ (i : Nat) a, ad[i]? = some a → ad'[i]? = some a) : RepWs K L' ad' vs ws := prd_same (fun _ _ r => RepW.mono r e p) h
theorem RepWs.grw {vs : List V} {ws : List W} (h : RepWs K (low ad C H) ad vs ws) (g : Grw ad C H ad' C' H') : RepWs K (low ad' C' H') ad' vs ws := RepWs.mono h g.low g.pre
theorem RepC.mono {a : Addr} {c : Cell} (h : RepC K L ad H a c) (eH : H' a = H a) (e : Same L L') (p : ∀ (i : Nat) a, ad[i]? = some a → ad'[i]? = some a) : RepC K L' ad' H' a c := by
  have kv : ∀ {κ : Type} {ks : List (κ × V)} {kvs : List (κ × W)}, Paired (fun p q => p.1 = q.1 ∧ RepW K L ad p.2 q.2) ks kvs → Paired (fun p q => p.1 = q.1 ∧ RepW K L' ad' p.2 q.2) ks kvs := fun h => prd_same (fun _ _ r => ⟨r.1, r.2.mono e p⟩) h
  cases c with
  | lst ws => obtain ⟨vs, h1, h2⟩ := h; exact ⟨vs, eH.trans h1, RepWs.mono h2 e p⟩
  | tup ws => obtain ⟨vs, h1, h2⟩ := h; exact ⟨vs, eH.trans h1, RepWs.mono h2 e p⟩
  | dK ws => obtain ⟨vs, h1, h2⟩ := h; exact ⟨vs, eH.trans h1, kv h2⟩
  | dT ws => obtain ⟨vs, h1, h2⟩ := h; exact ⟨vs, eH.trans h1, kv h2⟩
  | ins c ws => obtain ⟨dx, vs, h1, h2⟩ := h; exact ⟨dx, vs, eH.trans h1, kv h2⟩
  | fz => trivial
/-- the heap grows by things beside -/
theorem low_mono (e : Same H H') : Same (low ad C H) (low ad C H') := fun b o h => by
  obtain ⟨h1, h2⟩ := low_at h
  rw [low_of h1]
  exact e _ _ h2
theorem HeapR.same (h : HeapR K ad C H) (e : Same H H') : HeapR K ad C H' := by
  refine ⟨h.len, h.nd, fun i a ha z => ?_, fun i a c ha hc => ?_⟩
  · have := e.free z
    exact h.tr i a ha this
  · refine (h.rep i a c ha hc).mono ?_ (low_mono e) (fun _ _ z => z)
    cases q : H a with
    | none => exact absurd q (h.tr i a ha)
    | some o => exact e _ _ q
theorem grw_same (e : Same H H') : Grw ad C H ad C H' := ⟨fun _ _ h => h, low_mono e⟩
theorem HeapR.get (h : HeapR K ad C H) {i : Nat} {c : Cell} (hc : C[i]? = some c) : ∃ a, ad[i]? = some a ∧ RepC K (low ad C H) ad H a c := by
  have : i < ad.length := by rw [h.len]; exact (List.getElem?_eq_some_iff.mp hc).1
  exact ⟨ad[i], List.getElem?_eq_getElem this, h.rep i _ c (List.getElem?_eq_getElem this) hc⟩
/-- a new cell -/
theorem low_new {a : Addr} {o : HO} {c : Cell} (hl : ad.length = C.length) (na : H a = none) (hc : c ≠ .fz) : low (ad ++ [a]) (C ++ [c]) (upd H a o) = low ad C H := by
  funext b
  by_cases e : b = a
  · subst e
    have h1 : Hid (ad ++ [b]) (C ++ [c]) b := ⟨ad.length, c, List.getElem?_concat_length, by rw [hl]; exact List.getElem?_concat_length, hc⟩
    unfold low
    rw [if_pos h1]
    split
    · rfl
    · exact na.symm
  · have h1 : Hid (ad ++ [a]) (C ++ [c]) b ↔ Hid ad C b := by
      constructor
      · rintro ⟨i, x, h1, h2, h3⟩
        by_cases hi : i < ad.length
        · rw [List.getElem?_append_left hi] at h1
          rw [List.getElem?_append_left (by omega)] at h2
          exact ⟨i, x, h1, h2, h3⟩
        · have : i = ad.length := by
            have := (List.getElem?_eq_some_iff.mp h1).1
            rw [List.length_append, List.length_singleton] at this
            omega
          subst this
          rw [List.getElem?_concat_length] at h1
          exact absurd (Option.some.inj h1).symm e
      · rintro ⟨i, x, h1, h2, h3⟩
        exact ⟨i, x, by rw [List.getElem?_append_left (List.getElem?_eq_some_iff.mp h1).1]; exact h1, by rw [List.getElem?_append_left (List.getElem?_eq_some_iff.mp h2).1]; exact h2, h3⟩
    unfold low
    rw [upd_ne e]
    by_cases h2 : Hid ad C b
    · rw [if_pos h2, if_pos (h1.mpr h2)]
    · rw [if_neg h2, if_neg (fun z => h2 (h1.mp z))]
theorem pre_new {a : Addr} : ∀ (i : Nat) b, ad[i]? = some b → (ad ++ [a])[i]? = some b := fun i b h => by
  rw [List.getElem?_append_left (List.getElem?_eq_some_iff.mp h).1]
  exact h
theorem HeapR.new {a : Addr} {o : HO} {c : Cell} (h : HeapR K ad C H) (na : H a = none) (hc : c ≠ .fz) (hr : RepC K (low ad C H) ad (upd H a o) a c) : HeapR K (ad ++ [a]) (C ++ [c]) (upd H a o) ∧ Grw ad C H (ad ++ [a]) (C ++ [c]) (upd H a o) := by
  have el := low_new (o := o) h.len na hc
  have nin : ∀ (i : Nat) b, ad[i]? = some b → b ≠ a := fun i b hb e => h.tr i b hb (by rw [e]; exact na)
  have split : ∀ (i : Nat) b, (ad ++ [a])[i]? = some b → (ad[i]? = some b ∧ i < ad.length) ∨ (i = ad.length ∧ b = a) := fun i b hb => by
    by_cases hi : i < ad.length
    · rw [List.getElem?_append_left hi] at hb
      exact .inl ⟨hb, hi⟩
    · have : i = ad.length := by
        have := (List.getElem?_eq_some_iff.mp hb).1
        rw [List.length_append, List.length_singleton] at this
        omega
      subst this
      rw [List.getElem?_concat_length] at hb
      exact .inr ⟨rfl, (Option.some.inj hb).symm⟩
  refine ⟨⟨by rw [List.length_append, List.length_append, h.len]; rfl, fun i j b hi hj => ?_, fun i b hb => ?_, fun i b x hb hx => ?_⟩, ⟨pre_new, by rw [el]; exact Same.refl _⟩⟩
  · rcases split i b hi with ⟨h1, _⟩ | ⟨h1, h2⟩ <;> rcases split j b hj with ⟨h3, _⟩ | ⟨h3, h4⟩
    · exact h.nd i j b h1 h3
    · exact absurd h4 (nin i b h1)
    · exact absurd h2 (nin j b h3)
    · rw [h1, h3]
  · rcases split i b hb with ⟨h1, _⟩ | ⟨h1, h2⟩
    · rw [upd_ne (nin i b h1)]
      exact h.tr i b h1
    · rw [h2, upd_same]
      exact nofun
  · rw [el]
    rcases split i b hb with ⟨h1, hi⟩ | ⟨h1, h2⟩
    · rw [List.getElem?_append_left (by rw [← h.len]; exact hi)] at hx
      exact (h.rep i b x h1 hx).mono (upd_ne (nin i b h1)) (Same.refl _) pre_new
    · subst h1 h2
      rw [h.len, List.getElem?_concat_length] at hx
      cases hx
      exact hr.mono rfl (Same.refl _) pre_new
theorem getE_set {α : Type} {xs : List α} {i j : Nat} {x : α} : (xs.set i x)[j]? = if i = j then (if i < xs.length then some x else none) else xs[j]? := by
  rw [List.getElem?_set]
/-- a cell is changed -/
theorem low_set {i : Nat} {a : Addr} {o : HO} {c c0 : Cell} (h : HeapR K ad C H) (ha : ad[i]? = some a) (h0 : C[i]? = some c0) (hn : c0 ≠ .fz) (hc : c ≠ .fz) : low ad (C.set i c) (upd H a o) = low ad C H := by
  have hi := (List.getElem?_eq_some_iff.mp h0).1
  funext b
  have h1 : Hid ad (C.set i c) b ↔ Hid ad C b := by
    constructor
    · rintro ⟨j, x, h1, h2, h3⟩
      by_cases e : i = j
      · subst e
        exact ⟨i, c0, h1, h0, hn⟩
      · rw [getE_set, if_neg e] at h2
        exact ⟨j, x, h1, h2, h3⟩
    · rintro ⟨j, x, h1, h2, h3⟩
      by_cases e : i = j
      · subst e
        exact ⟨i, c, h1, by rw [getE_set, if_pos rfl, if_pos hi], hc⟩
      · exact ⟨j, x, h1, by rw [getE_set, if_neg e]; exact h2, h3⟩
  by_cases e : b = a
  · subst e
    have h2 : Hid ad C b := ⟨i, c0, ha, h0, hn⟩
    unfold low
    rw [if_pos h2, if_pos (h1.mpr h2)]
  · unfold low
    rw [upd_ne e]
    by_cases h2 : Hid ad C b
    · rw [if_pos h2, if_pos (h1.mpr h2)]
    · rw [if_neg h2, if_neg (fun z => h2 (h1.mp z))]
theorem HeapR.set {i : Nat} {a : Addr} {o : HO} {c c0 : Cell} (h : HeapR K ad C H) (ha : ad[i]? = some a) (h0 : C[i]? = some c0) (hn : c0 ≠ .fz) (hc : c ≠ .fz) (hr : RepC K (low ad C H) ad (upd H a o) a c) : HeapR K ad (C.set i c) (upd H a o) ∧ Grw ad C H ad (C.set i c) (upd H a o) := by
  have el := low_set (o := o) (c := c) h ha h0 hn hc
  have hi := (List.getElem?_eq_some_iff.mp h0).1
  refine ⟨⟨by rw [List.length_set]; exact h.len, h.nd, fun j b hb => ?_, fun j b x hb hx => ?_⟩, ⟨fun _ _ z => z, by rw [el]; exact Same.refl _⟩⟩
  · by_cases e : b = a
    · rw [e, upd_same]
      exact nofun
    · rw [upd_ne e]
      exact h.tr j b hb
  · rw [el]
    by_cases e : i = j
    · subst e
      rw [getE_set, if_pos rfl, if_pos hi] at hx
      cases hx
      rw [ha] at hb
      cases hb
      exact hr
    · rw [getE_set, if_neg e] at hx
      exact (h.rep j b x hb hx).mono (upd_ne (fun z => e (h.nd i j a ha (by rw [← z]; exact hb)))) (Same.refl _) (fun _ _ z => z)
/-- a cell is frozen -/
theorem low_fz {i : Nat} : Same (low ad C H) (low ad (C.set i .fz) H) := fun b o h => by
  obtain ⟨h1, h2⟩ := low_at h
  rw [low_of (fun z => h1 ?_)]
  · exact h2
  · obtain ⟨j, x, z1, z2, z3⟩ := z
    by_cases e : i = j
    · subst e
      rw [getE_set, if_pos rfl] at z2
      split at z2
      · cases z2
        exact absurd rfl z3
      · cases z2
    · rw [getE_set, if_neg e] at z2
      exact ⟨j, x, z1, z2, z3⟩
theorem HeapR.fz {i : Nat} (h : HeapR K ad C H) : HeapR K ad (C.set i .fz) H ∧ Grw ad C H ad (C.set i .fz) H := by
  refine ⟨⟨by rw [List.length_set]; exact h.len, h.nd, h.tr, fun j b x hb hx => ?_⟩, ⟨fun _ _ z => z, low_fz⟩⟩
  by_cases e : i = j
  · subst e
    rw [getE_set, if_pos rfl] at hx
    split at hx
    · cases hx
      trivial
    · cases hx
  · rw [getE_set, if_neg e] at hx
    exact (h.rep j b x hb hx).mono rfl low_fz (fun _ _ z => z)
theorem low_fz_at {i : Nat} {a : Addr} (h : HeapR K ad C H) (ha : ad[i]? = some a) : low ad (C.set i .fz) H a = H a := by
  refine low_of ?_
  rintro ⟨j, x, z1, z2, z3⟩
  have := h.nd i j a ha z1
  subst this
  rw [getE_set, if_pos rfl] at z2
  split at z2
  · cases z2
    exact z3 rfl
  · cases z2
theorem ats_of {vs : List V} {ds : List Dt} (h : RepWs K L ad vs (ds.map W.d)) : Ats K L vs ds := by
  induction ds generalizing vs with
  | nil => cases h; unfold Ats; rfl
  | cons d ds ih =>
    cases h with
    | cons r t => unfold Ats; exact ⟨_, _, rfl, r, ih t⟩
theorem rep_ats {vs : List V} {ds : List Dt} (h : Ats K L vs ds) : RepWs K L ad vs (ds.map W.d) := by
  induction ds generalizing vs with
  | nil => unfold Ats at h; subst h; exact .nil
  | cons d ds ih => unfold Ats at h; obtain ⟨v, us, rfl, h1, h2⟩ := h; exact .cons h1 (ih h2)
theorem fz_lst {i : Nat} {a : Addr} {ds : List Dt} (h : HeapR K ad C H) (ha : ad[i]? = some a) (hc : C[i]? = some (.lst (ds.map W.d))) : At K (low ad (C.set i .fz) H) (.ref a) (.lst ds) := by
  obtain ⟨vs, h1, h2⟩ := h.rep i a _ ha hc
  unfold At
  exact ⟨a, vs, rfl, SqL.of (by rw [low_fz_at h ha]; exact h1), Ats.same low_fz _ _ (ats_of h2)⟩
theorem fz_tup {i : Nat} {a : Addr} {ds : List Dt} (h : HeapR K ad C H) (ha : ad[i]? = some a) (hc : C[i]? = some (.tup (ds.map W.d))) : At K (low ad (C.set i .fz) H) (.ref a) (.tup ds) := by
  obtain ⟨vs, h1, h2⟩ := h.rep i a _ ha hc
  unfold At
  exact ⟨a, vs, rfl, SqT.of (by rw [low_fz_at h ha]; exact h1), Ats.same low_fz _ _ (ats_of h2)⟩
/-- something new that stays -/
theorem low_put {a : Addr} {o : HO} (h : HeapR K ad C H) (na : H a = none) : low ad C (upd H a o) a = some o := by
  rw [low_of, upd_same]
  rintro ⟨i, x, z1, _⟩
  exact h.tr i a z1 na
theorem put_tup {a : Addr} {vs : List V} {ds : List Dt} (h : HeapR K ad C H) (na : H a = none) (hv : RepWs K (low ad C H) ad vs (ds.map W.d)) : At K (low ad C (upd H a (.tup vs))) (.ref a) (.tup ds) := by
  unfold At
  exact ⟨a, vs, rfl, SqT.of (low_put h na), Ats.same (low_mono (same_upd na)) _ _ (ats_of hv)⟩
theorem put_lst {a : Addr} {vs : List V} {ds : List Dt} (h : HeapR K ad C H) (na : H a = none) (hv : RepWs K (low ad C H) ad vs (ds.map W.d)) : At K (low ad C (upd H a (.lst vs))) (.ref a) (.lst ds) := by
  unfold At
  exact ⟨a, vs, rfl, SqL.of (low_put h na), Ats.same (low_mono (same_upd na)) _ _ (ats_of hv)⟩
end

/-! ## slots -/
structure SlotR (K : PySem.W.Frag) (L : Hp) (ad : List Addr) (σ : L2.St) (ρ : Ws) : Prop where
  len : σ.length = ρ.length
  get : ∀ (i : Nat) w, ρ[i]? = some (some w) → ∃ v, σ[i]? = some (some v) ∧ RepW K L ad v w
section
variable {K : PySem.W.Frag} {L L' H H' H1 H2 : Hp} {ad ad' ad1 ad2 : List Addr} {C C' C1 C2 : Cs} {σ : L2.St} {ρ : Ws}
theorem SlotR.mono (h : SlotR K L ad σ ρ) (e : Same L L') (p : ∀ (i : Nat) a, ad[i]? = some a → ad'[i]? = some a) : SlotR K L' ad' σ ρ := ⟨h.len, fun i w hw => by
  obtain ⟨v, h1, h2⟩ := h.get i w hw
  exact ⟨v, h1, h2.mono e p⟩⟩
theorem SlotR.grw (h : SlotR K (low ad C H) ad σ ρ) (g : Grw ad C H ad' C' H') : SlotR K (low ad' C' H') ad' σ ρ := h.mono g.low g.pre
theorem SlotR.set (h : SlotR K L ad σ ρ) {v : V} {w : W} (r : RepW K L ad v w) (i : Nat) : SlotR K L ad (σ.set i (some v)) (ρ.set i (some w)) := by
  refine ⟨by rw [List.length_set, List.length_set]; exact h.len, fun j x hx => ?_⟩
  by_cases e : i = j
  · subst e
    rw [getE_set, if_pos rfl] at hx ⊢
    split at hx
    · cases hx
      rename_i hlt
      rw [if_pos (by rw [h.len]; exact hlt)]
      exact ⟨v, rfl, r⟩
    · cases hx
  · rw [getE_set, if_neg e] at hx ⊢
    exact h.get j x hx
theorem SlotR.unset (h : SlotR K L ad σ ρ) (i : Nat) : SlotR K L ad (σ.set i none) (ρ.set i none) := by
  refine ⟨by rw [List.length_set, List.length_set]; exact h.len, fun j x hx => ?_⟩
  by_cases e : i = j
  · subst e
    rw [getE_set, if_pos rfl] at hx
    split at hx <;> cases hx
  · rw [getE_set, if_neg e] at hx ⊢
    exact h.get j x hx
def wipeW (ρ : Ws) : List Nat → Ws
  | [] => ρ
  | v :: vs => (wipeW ρ vs).set v none
theorem SlotR.wipe (h : SlotR K L ad σ ρ) : ∀ vs : List Nat, SlotR K L ad (L2.wipe σ vs) (wipeW ρ vs)
  | [] => h
  | v :: vs => (SlotR.wipe h vs).unset v
end

/-! ## readings over worths -/
abbrev TD := Ws → Cs → (W → Cs → Prop) → Prop
abbrev TDT := Ws → Cs → (Bool → Cs → Prop) → Prop
abbrev TDA := Ws → Cs → (List W → Cs → Prop) → Prop
abbrev TDO := Ws → Cs → (Option Int → Cs → Prop) → Prop
abbrev TDG := W → Ws → Cs → (Ws → Cs → Prop) → Prop
abbrev TDGs := List W → Ws → Cs → (Ws → Cs → Prop) → Prop
structure DEnds where
  nx : Ws → Cs → Prop
  rt : W → Cs → Prop
  bk : Ws → Cs → Prop := fun _ _ => False
  ct : Ws → Cs → Prop := fun _ _ => False
abbrev TDS := DEnds → Ws → Cs → Prop
def ContD (K : PySem.W.Frag) (ad : List Addr) (C : Cs) (H : Hp) (Qd : W → Cs → Prop) (Q : VK) : Prop := ∀ w C' v H' ad', Qd w C' → HeapR K ad' C' H' → Grw ad C H ad' C' H' → RepW K (low ad' C' H') ad' v w → Q v H'
def ContB (K : PySem.W.Frag) (ad : List Addr) (C : Cs) (H : Hp) (Qd : Bool → Cs → Prop) (Q : Bool → Hp → Prop) : Prop := ∀ b C' H' ad', Qd b C' → HeapR K ad' C' H' → Grw ad C H ad' C' H' → Q b H'
def ContO (K : PySem.W.Frag) (ad : List Addr) (C : Cs) (H : Hp) (Qd : Option Int → Cs → Prop) (Q : Option Int → Hp → Prop) : Prop := ∀ b C' H' ad', Qd b C' → HeapR K ad' C' H' → Grw ad C H ad' C' H' → Q b H'
def ContA (K : PySem.W.Frag) (ad : List Addr) (C : Cs) (H : Hp) (Qd : List W → Cs → Prop) (Q : List V → Hp → Prop) : Prop := ∀ ws C' vs H' ad', Qd ws C' → HeapR K ad' C' H' → Grw ad C H ad' C' H' → RepWs K (low ad' C' H') ad' vs ws → Q vs H'
def ContS (K : PySem.W.Frag) (ad : List Addr) (C : Cs) (H : Hp) (Qd : Ws → Cs → Prop) (Q : L2.St → Hp → Prop) : Prop := ∀ ρ' C' σ' H' ad', Qd ρ' C' → HeapR K ad' C' H' → Grw ad C H ad' C' H' → SlotR K (low ad' C' H') ad' σ' ρ' → Q σ' H'
structure EndsR (K : PySem.W.Frag) (ad : List Addr) (C : Cs) (H : Hp) (DD : DEnds) (D : Ends) : Prop where
  nx : ContS K ad C H DD.nx D.nx
  rt : ContD K ad C H DD.rt D.rt
  bk : ContS K ad C H DD.bk D.bk
  ct : ContS K ad C H DD.ct D.ct
section
variable {K : PySem.W.Frag} {H H' : Hp} {ad ad' : List Addr} {C C' : Cs}
theorem ContD.grw {Qd Q} (k : ContD K ad C H Qd Q) (g : Grw ad C H ad' C' H') : ContD K ad' C' H' Qd Q := fun w C2 v H2 ad2 q r g2 rv => k w C2 v H2 ad2 q r (g.trans g2) rv
theorem ContB.grw {Qd Q} (k : ContB K ad C H Qd Q) (g : Grw ad C H ad' C' H') : ContB K ad' C' H' Qd Q := fun b C2 H2 ad2 q r g2 => k b C2 H2 ad2 q r (g.trans g2)
theorem ContS.grw {Qd Q} (k : ContS K ad C H Qd Q) (g : Grw ad C H ad' C' H') : ContS K ad' C' H' Qd Q := fun b C2 s2 H2 ad2 q r g2 sr => k b C2 s2 H2 ad2 q r (g.trans g2) sr
theorem EndsR.grw {DD D} (k : EndsR K ad C H DD D) (g : Grw ad C H ad' C' H') : EndsR K ad' C' H' DD D := ⟨k.nx.grw g, k.rt.grw g, k.bk.grw g, k.ct.grw g⟩
end
class SimE (K : PySem.W.Frag) (t : TE) (d : outParam TD) : Prop where
  run : ∀ ρ C ad σ H Qd Q, HeapR K ad C H → SlotR K (low ad C H) ad σ ρ → d ρ C Qd → ContD K ad C H Qd Q → t σ H Q
class SimT (K : PySem.W.Frag) (t : TT) (d : outParam TDT) : Prop where
  run : ∀ ρ C ad σ H Qd Q, HeapR K ad C H → SlotR K (low ad C H) ad σ ρ → d ρ C Qd → ContB K ad C H Qd Q → t σ H Q
class SimO (K : PySem.W.Frag) (t : TO) (d : outParam TDO) : Prop where
  run : ∀ ρ C ad σ H Qd Q, HeapR K ad C H → SlotR K (low ad C H) ad σ ρ → d ρ C Qd → ContO K ad C H Qd Q → t σ H Q
class SimA (K : PySem.W.Frag) (t : TA) (d : outParam TDA) : Prop where
  run : ∀ ρ C ad σ H Qd Q, HeapR K ad C H → SlotR K (low ad C H) ad σ ρ → d ρ C Qd → ContA K ad C H Qd Q → t σ H Q
class SimG (K : PySem.W.Frag) (t : TG) (d : outParam TDG) : Prop where
  run : ∀ v w ρ C ad σ H Qd Q, HeapR K ad C H → SlotR K (low ad C H) ad σ ρ → RepW K (low ad C H) ad v w → d w ρ C Qd → ContS K ad C H Qd Q → t v σ H Q
class SimGs (K : PySem.W.Frag) (t : TGs) (d : outParam TDGs) : Prop where
  run : ∀ vs ws ρ C ad σ H Qd Q, HeapR K ad C H → SlotR K (low ad C H) ad σ ρ → RepWs K (low ad C H) ad vs ws → d ws ρ C Qd → ContS K ad C H Qd Q → t vs σ H Q
class SimS (K : PySem.W.Frag) (t : TS) (d : outParam TDS) : Prop where
  run : ∀ ρ C ad σ H DD D, HeapR K ad C H → SlotR K (low ad C H) ad σ ρ → d DD ρ C → EndsR K ad C H DD D → t D σ H
/-- rules by values: of arguments; of two; of one and arguments (a method); a slice -/
class LowA (K : PySem.W.Frag) (r : List V → Hp → VK → Prop) (d : outParam (List W → Cs → (W → Cs → Prop) → Prop)) : Prop where
  run : ∀ ws C ad vs H Qd Q, HeapR K ad C H → RepWs K (low ad C H) ad vs ws → d ws C Qd → ContD K ad C H Qd Q → r vs H Q
class Low1 (K : PySem.W.Frag) (r : V → Hp → VK → Prop) (d : outParam (W → Cs → (W → Cs → Prop) → Prop)) : Prop where
  run : ∀ x C ad v H Qd Q, HeapR K ad C H → RepW K (low ad C H) ad v x → d x C Qd → ContD K ad C H Qd Q → r v H Q
class Low2 (K : PySem.W.Frag) (r : R2) (d : outParam (W → W → Cs → (W → Cs → Prop) → Prop)) : Prop where
  run : ∀ x y C ad v u H Qd Q, HeapR K ad C H → RepW K (low ad C H) ad v x → RepW K (low ad C H) ad u y → d x y C Qd → ContD K ad C H Qd Q → r v u H Q
class LowM (K : PySem.W.Frag) (r : V → List V → Hp → VK → Prop) (d : outParam (W → List W → Cs → (W → Cs → Prop) → Prop)) : Prop where
  run : ∀ x ws C ad v vs H Qd Q, HeapR K ad C H → RepW K (low ad C H) ad v x → RepWs K (low ad C H) ad vs ws → d x ws C Qd → ContD K ad C H Qd Q → r v vs H Q
class LowSl (K : PySem.W.Frag) (r : V → Option Int → Option Int → Hp → VK → Prop) (d : outParam (W → Option Int → Option Int → Cs → (W → Cs → Prop) → Prop)) : Prop where
  run : ∀ x l u C ad v H Qd Q, HeapR K ad C H → RepW K (low ad C H) ad v x → d x l u C Qd → ContD K ad C H Qd Q → r v l u H Q
abbrev XD := Value → List (Str × W) → Cs → Prop
abbrev SpD := List W → Cs → (W → Cs → Prop) → XD → Prop
def ContX (K : PySem.W.Frag) (ad : List Addr) (C : Cs) (H : Hp) (Xd : XD) (E : XK) : Prop := ∀ cls fs C' d H' ad', Xd cls fs C' → HeapR K ad' C' H' → Grw ad C H ad' C' H' →
  ((d = none ∧ fs = []) ∨ ∃ a gs, d = some a ∧ H' a = some (.xd gs) ∧ Paired (fun p q => p.1 = q.1 ∧ RepW K (low ad' C' H') ad' p.2 q.2) gs fs) → E cls d H'
/-- a promise over worths -/
def lft (K : PySem.W.Frag) (sp : SpD) : Sp := fun vs H Q E => ∃ ws C ad Qd Xd, HeapR K ad C H ∧ RepWs K (low ad C H) ad vs ws ∧ sp ws C Qd Xd ∧ ContD K ad C H Qd Q ∧ ContX K ad C H Xd E
end BK

namespace BK
open PySem PySem.Spec PyProof.Rows L2

/-! ## rows of worths -/
def cd (z : Str) : List Nat := z.cps.toList
def allD : List W → Option (List Dt)
  | [] => some []
  | .d x :: ws => (allD ws).map (x :: ·)
  | .o _ :: _ => none
theorem allD_of : ∀ {ws : List W} {ds : List Dt}, allD ws = some ds → ws = ds.map W.d
  | [], ds, h => by cases h; rfl
  | .d x :: ws, ds, h => by
    unfold allD at h
    cases e : allD ws with
    | none => rw [e] at h; cases h
    | some es => rw [e] at h; cases h; rw [allD_of e]; rfl
  | .o _ :: _, _, h => by cases h
theorem allD_map : ∀ ds : List Dt, allD (ds.map W.d) = some ds
  | [] => rfl
  | d :: ds => by show (allD (ds.map W.d)).map (d :: ·) = _; rw [allD_map ds]; rfl
/-- a row, a list: what it holds -/
def rowW (C : Cs) : W → Option (List W)
  | .d (.lst ds) => some (ds.map W.d)
  | .d (.tup ds) => some (ds.map W.d)
  | .o i => match C[i]? with
    | some (.lst ws) => some ws
    | some (.tup ws) => some ws
    | _ => none
  | _ => none
def lstW (C : Cs) : W → Option (List W)
  | .d (.lst ds) => some (ds.map W.d)
  | .o i => match C[i]? with
    | some (.lst ws) => some ws
    | _ => none
  | _ => none
section
variable {K : PySem.W.Frag} {L L' H H' H1 H2 : Hp} {ad ad' ad1 ad2 : List Addr} {C C' C1 C2 : Cs} {v u : V} {w x y : W} {ws : List W}
theorem RepW.dAt {d : Dt} (h : RepW K (low ad C H) ad v (.d d)) : At K H v d := At.same (low_same _ _ _) _ _ h
theorem lst_of (h : HeapR K ad C H) (r : RepW K (low ad C H) ad v w) (e : lstW C w = some ws) : ∃ a xs, v = .ref a ∧ SqL K H a xs ∧ RepWs K (low ad C H) ad xs ws ∧ (∀ i, w = .o i → ad[i]? = some a ∧ H a = some (.lst xs)) := by
  cases w with
  | d d =>
    cases d with
    | lst ds =>
      cases e
      have r : At K (low ad C H) v (.lst ds) := r
      unfold At at r
      obtain ⟨a, xs, rfl, h1, h2⟩ := r
      exact ⟨a, xs, rfl, (low_same _ _ _).seq h1, rep_ats h2, fun i z => by cases z⟩
    | _ => cases e
  | o i =>
    obtain ⟨a, ha, rfl⟩ := r
    dsimp only [lstW] at e
    split at e
    · rename_i ws' hc
      cases e
      obtain ⟨vs, h1, h2⟩ := h.rep i a _ ha hc
      exact ⟨a, vs, rfl, SqL.of h1, h2, fun j z => by cases z; exact ⟨ha, h1⟩⟩
    · cases e
theorem row_of' (h : HeapR K ad C H) (r : RepW K (low ad C H) ad v w) (e : rowW C w = some ws) : ∃ a xs, v = .ref a ∧ Row K H a xs ∧ RepWs K (low ad C H) ad xs ws := by
  cases w with
  | d d =>
    cases d with
    | lst ds =>
      cases e
      have r : At K (low ad C H) v (.lst ds) := r
      unfold At at r
      obtain ⟨a, xs, rfl, h1, h2⟩ := r
      exact ⟨a, xs, rfl, .inl ((low_same _ _ _).seq h1), rep_ats h2⟩
    | tup ds =>
      cases e
      have r : At K (low ad C H) v (.tup ds) := r
      unfold At at r
      obtain ⟨a, xs, rfl, h1, h2⟩ := r
      exact ⟨a, xs, rfl, .inr (sameT (low_same _ _ _) h1), rep_ats h2⟩
    | _ => cases e
  | o i =>
    obtain ⟨a, ha, rfl⟩ := r
    dsimp only [rowW] at e
    split at e
    · rename_i ws' hc
      cases e
      obtain ⟨vs, h1, h2⟩ := h.rep i a _ ha hc
      exact ⟨a, vs, rfl, .inl (SqL.of h1), h2⟩
    · rename_i ws' hc
      cases e
      obtain ⟨vs, h1, h2⟩ := h.rep i a _ ha hc
      exact ⟨a, vs, rfl, .inr (SqT.of h1), h2⟩
    · cases e
theorem own_of {i : Nat} (h : HeapR K ad C H) (r : RepW K (low ad C H) ad v (.o i)) (e : C[i]? = some (.lst ws)) : ∃ a xs, v = .ref a ∧ H a = some (.lst xs) ∧ RepWs K (low ad C H) ad xs ws ∧ ad[i]? = some a := by
  obtain ⟨a, ha, rfl⟩ := r
  obtain ⟨vs, h1, h2⟩ := h.rep i a _ ha e
  exact ⟨a, vs, rfl, h1, h2, ha⟩
theorem new_lst {vs : List V} (h : HeapR K ad C H) (r : RepWs K (low ad C H) ad vs ws) {a : Addr} (na : H a = none) : HeapR K (ad ++ [a]) (C ++ [.lst ws]) (upd H a (.lst vs)) ∧ Grw ad C H (ad ++ [a]) (C ++ [.lst ws]) (upd H a (.lst vs)) ∧ RepW K (low (ad ++ [a]) (C ++ [.lst ws]) (upd H a (.lst vs))) (ad ++ [a]) (.ref a) (.o C.length) := by
  obtain ⟨h1, h2⟩ := h.new (o := .lst vs) (c := .lst ws) na (fun z => by cases z) ⟨vs, upd_same, r⟩
  exact ⟨h1, h2, a, by rw [← h.len]; exact List.getElem?_concat_length, rfl⟩
theorem new_tup {vs : List V} (h : HeapR K ad C H) (r : RepWs K (low ad C H) ad vs ws) {a : Addr} (na : H a = none) : HeapR K (ad ++ [a]) (C ++ [.tup ws]) (upd H a (.tup vs)) ∧ Grw ad C H (ad ++ [a]) (C ++ [.tup ws]) (upd H a (.tup vs)) ∧ RepW K (low (ad ++ [a]) (C ++ [.tup ws]) (upd H a (.tup vs))) (ad ++ [a]) (.ref a) (.o C.length) := by
  obtain ⟨h1, h2⟩ := h.new (o := .tup vs) (c := .tup ws) na (fun z => by cases z) ⟨vs, upd_same, r⟩
  exact ⟨h1, h2, a, by rw [← h.len]; exact List.getElem?_concat_length, rfl⟩
end
/-- a new list: an own one, or (of things alone) one that stays -/
def newL (ws : List W) (C : Cs) (Q : W → Cs → Prop) : Prop := Q (.o C.length) (C ++ [.lst ws]) ∨ ∃ ds, allD ws = some ds ∧ Q (.d (.lst ds)) C
def newT (ws : List W) (C : Cs) (Q : W → Cs → Prop) : Prop := match allD ws with
  | some ds => Q (.d (.tup ds)) C
  | none => Q (.o C.length) (C ++ [.tup ws])
theorem newL_run {K : PySem.W.Frag} {H : Hp} {ad : List Addr} {C : Cs} {ws : List W} {vs : List V} {Qd : W → Cs → Prop} {Q : VK} (h : HeapR K ad C H) (r : RepWs K (low ad C H) ad vs ws) (q : newL ws C Qd) (k : ContD K ad C H Qd Q) (a : Addr) (na : H a = none) : Q (.ref a) (upd H a (.lst vs)) := by
  rcases q with q | ⟨ds, e, q⟩
  · obtain ⟨h1, h2, h3⟩ := new_lst h r na
    exact k _ _ _ _ _ q h1 h2 h3
  · rw [allD_of e] at r
    exact k _ _ _ _ _ q (h.same (same_upd na)) (grw_same (same_upd na)) (put_lst h na r)
theorem newT_run {K : PySem.W.Frag} {H : Hp} {ad : List Addr} {C : Cs} {ws : List W} {vs : List V} {Qd : W → Cs → Prop} {Q : VK} (h : HeapR K ad C H) (r : RepWs K (low ad C H) ad vs ws) (q : newT ws C Qd) (k : ContD K ad C H Qd Q) (a : Addr) (na : H a = none) : Q (.ref a) (upd H a (.tup vs)) := by
  unfold newT at q
  split at q
  · rename_i ds e
    rw [allD_of e] at r
    exact k _ _ _ _ _ q (h.same (same_upd na)) (grw_same (same_upd na)) (put_tup h na r)
  · obtain ⟨h1, h2, h3⟩ := new_tup h r na
    exact k _ _ _ _ _ q h1 h2 h3

section
variable {K : PySem.W.Frag} {L : Hp} {ad : List Addr} {v : V}
theorem rw_bl {b : Bool} : RepW K L ad (.bl b) (.d (.bl b)) := by show At K L _ _; unfold At; rfl
theorem rw_int {i : Int} : RepW K L ad (.int i) (.d (.int i)) := by show At K L _ _; unfold At; rfl
theorem rw_non : RepW K L ad .non (.d .non) := by show At K L _ _; unfold At; rfl
theorem rw_str {z : List Nat} (h : z.length ≤ 1000000) : RepW K L ad (.str (tx z)) (.d (.str z)) := by show At K L _ _; unfold At; exact ⟨rfl, h⟩
theorem bl_at {b : Bool} (h : RepW K L ad v (.d (.bl b))) : v = .bl b := by
  have h : At K L v (.bl b) := h
  unfold At at h
  exact h
theorem int_at {b : Int} (h : RepW K L ad v (.d (.int b))) : v = .int b := by
  have h : At K L v (.int b) := h
  unfold At at h
  exact h
theorem non_at (h : RepW K L ad v (.d .non)) : v = .non := by
  have h : At K L v .non := h
  unfold At at h
  exact h
theorem str_at {z : List Nat} (h : RepW K L ad v (.d (.str z))) : v = .str (tx z) ∧ z.length ≤ 1000000 := by
  have h : At K L v (.str z) := h
  unfold At at h
  exact h
end
/-! ## expressions -/
section
variable {K : PySem.W.Frag}
def dVar (i : Nat) : TD := fun ρ C Q => match ρ[i]? with
  | some (some w) => Q w C
  | _ => False
instance {i : Nat} : SimE K (tVar i) (dVar i) := ⟨fun ρ C ad σ H Qd Q hR sR h k => by
  unfold dVar at h
  split at h
  · rename_i w hw
    obtain ⟨v, hv, r⟩ := sR.get i w hw
    exact ⟨v, hv, k w C v H ad h hR .refl r⟩
  · exact h.elim⟩
def dC (w : W) : TD := fun _ C Q => Q w C
instance : SimE K (tC .non) (dC (.d .non)) := ⟨fun ρ C ad σ H Qd Q hR sR h k => k _ C _ H ad h hR .refl rw_non⟩
instance {b : Bool} : SimE K (tC (.bl b)) (dC (.d (.bl b))) := ⟨fun ρ C ad σ H Qd Q hR sR h k => k _ C _ H ad h hR .refl rw_bl⟩
instance {i : Int} : SimE K (tC (.int i)) (dC (.d (.int i))) := ⟨fun ρ C ad σ H Qd Q hR sR h k => k _ C _ H ad h hR .refl rw_int⟩
/-- a written text -/
def tStrL (x : Str) : TE := fun _ H Q => x.length ≤ 1000000 → Q (.str x) H
theorem pe_strL {X : Cx} {x j pos} (h : x.length ≤ 1000000 := by decide +kernel) : PE X (.Constant (.str x) j pos) (tStrL x) := ⟨fun pins s σ H Q I q => pe_str.run pins s σ H Q I (q h)⟩
theorem atS_lit {K : PySem.W.Frag} {L : Hp} {x : Str} (h : x.length ≤ 1000000) : At K L (.str x) (.str (cd x)) := by
  unfold At
  refine ⟨?_, ?_⟩
  · unfold cd
    rw [tx_of]
  · unfold cd
    exact h
instance {x : Str} : SimE K (tStrL x) (dC (.d (.str (cd x)))) := ⟨fun ρ C ad σ H Qd Q hR sR h k hl => k _ C _ H ad h hR .refl (show At K (low ad C H) (.str x) (.str (cd x)) from atS_lit hl)⟩
def dNil : TDA := fun _ C Q => Q [] C
def dCons (a : TD) (r : TDA) : TDA := fun ρ C Q => a ρ C fun w C1 => r ρ C1 fun ws C2 => Q (w :: ws) C2
instance : SimA K tNil dNil := ⟨fun ρ C ad σ H Qd Q hR sR h k => k [] C [] H ad h hR .refl .nil⟩
instance {ta : TE} {da : TD} {tr : TA} {dr : TDA} [a : SimE K ta da] [r : SimA K tr dr] : SimA K (tCons ta tr) (dCons da dr) := ⟨fun ρ C ad σ H Qd Q hR sR h k =>
  a.run ρ C ad σ H _ _ hR sR h fun w C1 v H1 ad1 q1 hR1 g1 r1 => r.run ρ C1 ad1 σ H1 _ _ hR1 (sR.grw g1) q1 fun ws C2 vs H2 ad2 q2 hR2 g2 r2 => k _ C2 _ H2 ad2 q2 hR2 (g1.trans g2) (.cons (r1.grw g2) r2)⟩
def dTup (a : TDA) : TD := fun ρ C Q => a ρ C fun ws C1 => ws.length ≤ 16777216 ∧ newT ws C1 Q
def dLst (a : TDA) : TD := fun ρ C Q => a ρ C fun ws C1 => ws.length ≤ 16777216 ∧ newL ws C1 Q
theorem line_is : sizeLine = 16777216 := by decide
instance {t : TA} {d : TDA} [a : SimA K t d] : SimE K (tTup t) (dTup d) := ⟨fun ρ C ad σ H Qd Q hR sR h k =>
  a.run ρ C ad σ H _ _ hR sR h fun ws C1 vs H1 ad1 q1 hR1 g1 r1 => ⟨by rw [prd_len r1, line_is]; exact q1.1, fun p np => newT_run hR1 r1 q1.2 (k.grw g1) p np⟩⟩
instance {t : TA} {d : TDA} [a : SimA K t d] : SimE K (tLst t) (dLst d) := ⟨fun ρ C ad σ H Qd Q hR sR h k =>
  a.run ρ C ad σ H _ _ hR sR h fun ws C1 vs H1 ad1 q1 hR1 g1 r1 => ⟨by rw [prd_len r1, line_is]; exact q1.1, fun p np => newL_run hR1 r1 q1.2 (k.grw g1) p np⟩⟩
def dOp (r : W → W → Cs → (W → Cs → Prop) → Prop) (a b : TD) : TD := fun ρ C Q => a ρ C fun x C1 => b ρ C1 fun y C2 => r x y C2 Q
instance {r : R2} {rd : W → W → Cs → (W → Cs → Prop) → Prop} {ta tb : TE} {da db : TD} [l : Low2 K r rd] [a : SimE K ta da] [b : SimE K tb db] : SimE K (tOp r ta tb) (dOp rd da db) := ⟨fun ρ C ad σ H Qd Q hR sR h k =>
  a.run ρ C ad σ H _ _ hR sR h fun x C1 v H1 ad1 q1 hR1 g1 r1 => b.run ρ C1 ad1 σ H1 _ _ hR1 (sR.grw g1) q1 fun y C2 u H2 ad2 q2 hR2 g2 r2 => l.run x y C2 ad2 v u H2 _ _ hR2 (r1.grw g2) r2 q2 (k.grw (g1.trans g2))⟩
def dUn (r : W → Cs → (W → Cs → Prop) → Prop) (a : TD) : TD := fun ρ C Q => a ρ C fun x C1 => r x C1 Q
instance {r : V → Hp → VK → Prop} {rd : W → Cs → (W → Cs → Prop) → Prop} {ta : TE} {da : TD} [l : Low1 K r rd] [a : SimE K ta da] : SimE K (tUn r ta) (dUn rd da) := ⟨fun ρ C ad σ H Qd Q hR sR h k =>
  a.run ρ C ad σ H _ _ hR sR h fun x C1 v H1 ad1 q1 hR1 g1 r1 => l.run x C1 ad1 v H1 _ _ hR1 r1 q1 (k.grw g1)⟩
def dCB (r : List W → Cs → (W → Cs → Prop) → Prop) (a : TDA) : TD := fun ρ C Q => a ρ C fun ws C1 => r ws C1 Q
instance {r : List V → Hp → VK → Prop} {rd : List W → Cs → (W → Cs → Prop) → Prop} {ta : TA} {da : TDA} [l : LowA K r rd] [a : SimA K ta da] : SimE K (tCB r ta) (dCB rd da) := ⟨fun ρ C ad σ H Qd Q hR sR h k =>
  a.run ρ C ad σ H _ _ hR sR h fun ws C1 vs H1 ad1 q1 hR1 g1 r1 => l.run ws C1 ad1 vs H1 _ _ hR1 r1 q1 (k.grw g1)⟩
def X0 : XD := fun _ _ _ => False
def dCall (sp : SpD) (a : TDA) : TD := fun ρ C Q => a ρ C fun ws C1 => sp ws C1 Q X0
theorem contX0 {ad : List Addr} {C : Cs} {H : Hp} {E : XK} : ContX K ad C H X0 E := fun _ _ _ _ _ _ z => z.elim
instance {sp : SpD} {E : XK} {ta : TA} {da : TDA} [a : SimA K ta da] : SimE K (tCall (lft K sp) [] E ta) (dCall sp da) := ⟨fun ρ C ad σ H Qd Q hR sR h k =>
  a.run ρ C ad σ H _ _ hR sR h fun ws C1 vs H1 ad1 q1 hR1 g1 r1 => ⟨ws, C1, ad1, Qd, X0, hR1, by rw [List.append_nil]; exact r1, q1, k.grw g1, contX0⟩⟩
-- tests
def dB (a : TD) : TDT := fun ρ C Q => a ρ C fun w C1 => match w with
  | .d (.bl b) => Q b C1
  | _ => False
instance {t : TE} {d : TD} [a : SimE K t d] : SimT K (tB t) (dB d) := ⟨fun ρ C ad σ H Qd Q hR sR h k => a.run ρ C ad σ H _ _ hR sR h fun w C1 v H1 ad1 q1 hR1 g1 r1 => by
  split at q1
  · rename_i b
    exact ⟨b, bl_at r1, k b C1 H1 ad1 q1 hR1 g1⟩
  · exact q1.elim⟩
instance {t : TE} {d : TD} [a : SimE K t d] : SimT K (tTest t) (dB d) := ⟨fun ρ C ad σ H Qd Q hR sR h k => a.run ρ C ad σ H _ _ hR sR h fun w C1 v H1 ad1 q1 hR1 g1 r1 => by
  split at q1
  · rename_i b
    exact ⟨b, bl_at r1, k b C1 H1 ad1 q1 hR1 g1⟩
  · exact q1.elim⟩
def dNot (a : TDT) : TDT := fun ρ C Q => a ρ C fun b C1 => Q (!b) C1
instance {t : TT} {d : TDT} [a : SimT K t d] : SimT K (tNot t) (dNot d) := ⟨fun ρ C ad σ H Qd Q hR sR h k => a.run ρ C ad σ H _ _ hR sR h fun b C1 H1 ad1 q1 hR1 g1 => k _ C1 H1 ad1 q1 hR1 g1⟩
def dAnd (a b : TDT) : TDT := fun ρ C Q => a ρ C fun c C1 => if c = true then b ρ C1 Q else Q false C1
def dOr (a b : TDT) : TDT := fun ρ C Q => a ρ C fun c C1 => if c = true then Q true C1 else b ρ C1 Q
instance {t u : TT} {d e : TDT} [a : SimT K t d] [b : SimT K u e] : SimT K (tAnd t u) (dAnd d e) := ⟨fun ρ C ad σ H Qd Q hR sR h k => a.run ρ C ad σ H _ _ hR sR h fun c C1 H1 ad1 q1 hR1 g1 => by
  cases c with
  | true => exact b.run ρ C1 ad1 σ H1 _ _ hR1 (sR.grw g1) q1 (k.grw g1)
  | false => exact k false C1 H1 ad1 q1 hR1 g1⟩
instance {t u : TT} {d e : TDT} [a : SimT K t d] [b : SimT K u e] : SimT K (tOr t u) (dOr d e) := ⟨fun ρ C ad σ H Qd Q hR sR h k => a.run ρ C ad σ H _ _ hR sR h fun c C1 H1 ad1 q1 hR1 g1 => by
  cases c with
  | false => exact b.run ρ C1 ad1 σ H1 _ _ hR1 (sR.grw g1) q1 (k.grw g1)
  | true => exact k true C1 H1 ad1 q1 hR1 g1⟩
def dAndV (a b : TD) : TD := fun ρ C Q => a ρ C fun w C1 => match w with
  | .d (.bl c) => if c = true then b ρ C1 Q else Q (.d (.bl false)) C1
  | _ => False
def dOrV (a b : TD) : TD := fun ρ C Q => a ρ C fun w C1 => match w with
  | .d (.bl c) => if c = true then Q (.d (.bl true)) C1 else b ρ C1 Q
  | _ => False
def dNotV (a : TD) : TD := fun ρ C Q => a ρ C fun w C1 => match w with
  | .d (.bl c) => Q (.d (.bl (!c))) C1
  | _ => False
instance {t u : TE} {d e : TD} [a : SimE K t d] [b : SimE K u e] : SimE K (tAndV t u) (dAndV d e) := ⟨fun ρ C ad σ H Qd Q hR sR h k => a.run ρ C ad σ H _ _ hR sR h fun w C1 v H1 ad1 q1 hR1 g1 r1 => by
  split at q1
  · rename_i c
    refine ⟨c, bl_at r1, ?_⟩
    cases c with
    | true => exact b.run ρ C1 ad1 σ H1 _ _ hR1 (sR.grw g1) q1 (k.grw g1)
    | false => exact k _ C1 _ H1 ad1 q1 hR1 g1 rw_bl
  · exact q1.elim⟩
instance {t u : TE} {d e : TD} [a : SimE K t d] [b : SimE K u e] : SimE K (tOrV t u) (dOrV d e) := ⟨fun ρ C ad σ H Qd Q hR sR h k => a.run ρ C ad σ H _ _ hR sR h fun w C1 v H1 ad1 q1 hR1 g1 r1 => by
  split at q1
  · rename_i c
    refine ⟨c, bl_at r1, ?_⟩
    cases c with
    | false => exact b.run ρ C1 ad1 σ H1 _ _ hR1 (sR.grw g1) q1 (k.grw g1)
    | true => exact k _ C1 _ H1 ad1 q1 hR1 g1 rw_bl
  · exact q1.elim⟩
instance {t : TE} {d : TD} [a : SimE K t d] : SimE K (tNotV t) (dNotV d) := ⟨fun ρ C ad σ H Qd Q hR sR h k => a.run ρ C ad σ H _ _ hR sR h fun w C1 v H1 ad1 q1 hR1 g1 r1 => by
  split at q1
  · rename_i c
    exact ⟨c, bl_at r1, k _ C1 _ H1 ad1 q1 hR1 g1 rw_bl⟩
  · exact q1.elim⟩
def dIf (c : TDT) (a b : TD) : TD := fun ρ C Q => c ρ C fun x C1 => if x = true then a ρ C1 Q else b ρ C1 Q
instance {c : TT} {t u : TE} {dc : TDT} {d e : TD} [x : SimT K c dc] [a : SimE K t d] [b : SimE K u e] : SimE K (tIf c t u) (dIf dc d e) := ⟨fun ρ C ad σ H Qd Q hR sR h k => x.run ρ C ad σ H _ _ hR sR h fun z C1 H1 ad1 q1 hR1 g1 => by
  cases z with
  | true => exact a.run ρ C1 ad1 σ H1 _ _ hR1 (sR.grw g1) q1 (k.grw g1)
  | false => exact b.run ρ C1 ad1 σ H1 _ _ hR1 (sR.grw g1) q1 (k.grw g1)⟩
def dChain (r r' : W → W → Cs → (W → Cs → Prop) → Prop) (a b c : TD) : TD := fun ρ C Q => a ρ C fun x C1 => b ρ C1 fun y C2 => r x y C2 fun z C3 => match z with
  | .d (.bl k) => if k = true then c ρ C3 fun t C4 => r' y t C4 Q else Q (.d (.bl false)) C3
  | _ => False
def dNoPart : TDO := fun _ C Q => Q none C
def dPart (a : TD) : TDO := fun ρ C Q => a ρ C fun w C1 => match w with
  | .d (.int i) => Q (some i) C1
  | _ => False
instance : SimO K tNoPart dNoPart := ⟨fun ρ C ad σ H Qd Q hR sR h k => k none C H ad h hR .refl⟩
instance {t : TE} {d : TD} [a : SimE K t d] : SimO K (tPart t) (dPart d) := ⟨fun ρ C ad σ H Qd Q hR sR h k => a.run ρ C ad σ H _ _ hR sR h fun w C1 v H1 ad1 q1 hR1 g1 r1 => by
  split at q1
  · rename_i i
    exact ⟨i, int_at r1, k _ C1 H1 ad1 q1 hR1 g1⟩
  · exact q1.elim⟩
def dSl (r : W → Option Int → Option Int → Cs → (W → Cs → Prop) → Prop) (e : TD) (l h : TDO) : TD := fun ρ C Q => e ρ C fun x C1 => l ρ C1 fun i C2 => h ρ C2 fun j C3 => r x i j C3 Q
end
end BK

namespace BK
open PySem PySem.Spec PyProof.Rows L2

/-! ## targets -/
section
variable {K : PySem.W.Frag}
def dName (i : Nat) : TDG := fun w ρ C Q => Q (ρ.set i (some w)) C
instance {i : Nat} : SimG K (gName i) (dName i) := ⟨fun v w ρ C ad σ H Qd Q hR sR r h k => k _ C _ H ad h hR .refl (sR.set r i)⟩
def dgNil : TDGs := fun ws ρ C Q => ws = [] ∧ Q ρ C
def dgCons (t : TDG) (u : TDGs) : TDGs := fun ws ρ C Q => match ws with
  | w :: r => t w ρ C fun ρ1 C1 => u r ρ1 C1 Q
  | [] => False
instance : SimGs K gNil dgNil := ⟨fun vs ws ρ C ad σ H Qd Q hR sR r h k => by
  obtain ⟨e, h⟩ := h
  subst e
  cases r
  exact ⟨rfl, k ρ C σ H ad h hR .refl sR⟩⟩
instance {t : TG} {u : TGs} {d : TDG} {e : TDGs} [a : SimG K t d] [b : SimGs K u e] : SimGs K (gCons t u) (dgCons d e) := ⟨fun vs ws ρ C ad σ H Qd Q hR sR r h k => by
  cases r with
  | nil => exact h.elim
  | cons r1 r2 => exact ⟨_, _, rfl, a.run _ _ ρ C ad σ H _ _ hR sR r1 h fun ρ1 C1 σ1 H1 ad1 q1 hR1 g1 s1 => b.run _ _ ρ1 C1 ad1 σ1 H1 _ _ hR1 s1 (RepWs.grw r2 g1) q1 (k.grw g1)⟩⟩
/-- a tuple's, or a row's, things to several targets -/
def dgTup (n : Nat) (t : TDGs) : TDG := fun w ρ C Q => match rowW C w with
  | some ws => ws.length = n ∧ t ws ρ C Q
  | none => False
instance {n : Nat} {t : TGs} {d : TDGs} [a : SimGs K t d] : SimG K (gSeq K n t) (dgTup n d) := ⟨fun v w ρ C ad σ H Qd Q hR sR r h k => by
  unfold dgTup at h
  split at h
  · rename_i ws e
    obtain ⟨p, xs, rfl, hr, hx⟩ := row_of' hR r e
    exact gSeq.row hr ((prd_len hx).trans h.1) (a.run xs ws ρ C ad σ H _ _ hR sR hx h.2 k)
  · exact h.elim⟩

/-! ## statements -/
def dNext : TDS := fun D ρ C => D.nx ρ C
def dSeq (t u : TDS) : TDS := fun D ρ C => t { D with nx := u D } ρ C
instance : SimS K tNext dNext := ⟨fun ρ C ad σ H DD D hR sR h k => k.nx ρ C σ H ad h hR .refl sR⟩
instance {t u : TS} {d e : TDS} [a : SimS K t d] [b : SimS K u e] : SimS K (tSeq t u) (dSeq d e) := ⟨fun ρ C ad σ H DD D hR sR h k =>
  a.run ρ C ad σ H { DD with nx := e DD } _ hR sR h ⟨fun ρ1 C1 σ1 H1 ad1 q1 hR1 g1 s1 => b.run ρ1 C1 ad1 σ1 H1 DD D hR1 s1 q1 (k.grw g1), k.rt, k.bk, k.ct⟩⟩
/-- the rest is stated once -/
def dCut (t u : TDS) : TDS := fun D ρ C => ∃ M : Ws → Cs → Prop, t { D with nx := M } ρ C ∧ ∀ ρ' C', M ρ' C' → u D ρ' C'
instance {t u : TS} {d e : TDS} [a : SimS K t d] [b : SimS K u e] : SimS K (C8.tCut t u) (dCut d e) := ⟨fun ρ C ad σ H DD D hR sR h k => by
  obtain ⟨M, h1, h2⟩ := h
  refine ⟨fun σ' H' => ∃ ρ' C' ad', M ρ' C' ∧ HeapR K ad' C' H' ∧ Grw ad C H ad' C' H' ∧ SlotR K (low ad' C' H') ad' σ' ρ', a.run ρ C ad σ H { DD with nx := M } _ hR sR h1 ⟨fun ρ1 C1 σ1 H1 ad1 q1 hR1 g1 s1 => ⟨ρ1, C1, ad1, q1, hR1, g1, s1⟩, k.rt, k.bk, k.ct⟩, ?_⟩
  rintro σ' H' ⟨ρ1, C1, ad1, q1, hR1, g1, s1⟩
  exact b.run ρ1 C1 ad1 σ' H' DD D hR1 s1 (h2 _ _ q1) (k.grw g1)⟩
def dBreak : TDS := fun D ρ C => D.bk ρ C
def dCont : TDS := fun D ρ C => D.ct ρ C
instance : SimS K tBreak dBreak := ⟨fun ρ C ad σ H DD D hR sR h k => k.bk ρ C σ H ad h hR .refl sR⟩
instance : SimS K tCont dCont := ⟨fun ρ C ad σ H DD D hR sR h k => k.ct ρ C σ H ad h hR .refl sR⟩
def dDrop (e : TD) : TDS := fun D ρ C => e ρ C fun _ C1 => D.nx ρ C1
instance {t : TE} {d : TD} [a : SimE K t d] : SimS K (tDrop t) (dDrop d) := ⟨fun ρ C ad σ H DD D hR sR h k => a.run ρ C ad σ H _ _ hR sR h fun w C1 v H1 ad1 q1 hR1 g1 r1 => k.nx ρ C1 σ H1 ad1 q1 hR1 g1 (sR.grw g1)⟩
def dRet (e : TD) : TDS := fun D ρ C => e ρ C D.rt
def dRetN : TDS := fun D _ C => D.rt (.d .non) C
instance {t : TE} {d : TD} [a : SimE K t d] : SimS K (tRet t) (dRet d) := ⟨fun ρ C ad σ H DD D hR sR h k => a.run ρ C ad σ H _ _ hR sR h k.rt⟩
instance : SimS K tRetN dRetN := ⟨fun ρ C ad σ H DD D hR sR h k => k.rt _ C _ H ad h hR .refl rw_non⟩
def dIfS (c : TDT) (t u : TDS) : TDS := fun D ρ C => c ρ C fun b C1 => if b = true then t D ρ C1 else u D ρ C1
instance {c : TT} {t u : TS} {x : TDT} {d e : TDS} [z : SimT K c x] [a : SimS K t d] [b : SimS K u e] : SimS K (tIfS c t u) (dIfS x d e) := ⟨fun ρ C ad σ H DD D hR sR h k => z.run ρ C ad σ H _ _ hR sR h fun y C1 H1 ad1 q1 hR1 g1 => by
  cases y with
  | true => exact a.run ρ C1 ad1 σ H1 DD D hR1 (sR.grw g1) q1 (k.grw g1)
  | false => exact b.run ρ C1 ad1 σ H1 DD D hR1 (sR.grw g1) q1 (k.grw g1)⟩
def dAsg (e : TD) (g : TDG) : TDS := fun D ρ C => e ρ C fun w C1 => g w ρ C1 D.nx
instance {t : TE} {g : TG} {d : TD} {dg : TDG} [a : SimE K t d] [b : SimG K g dg] : SimS K (tAsg t g) (dAsg d dg) := ⟨fun ρ C ad σ H DD D hR sR h k => a.run ρ C ad σ H _ _ hR sR h fun w C1 v H1 ad1 q1 hR1 g1 r1 => b.run v w ρ C1 ad1 σ H1 _ _ hR1 (sR.grw g1) r1 q1 (k.nx.grw g1)⟩
def dPar (i j : Nat) (a : TDA) : TDS := fun D ρ C => a ρ C fun ws C1 => match ws with
  | [w, x] => D.nx ((ρ.set i (some w)).set j (some x)) C1
  | _ => False
instance {i j : Nat} {t : TA} {d : TDA} [a : SimA K t d] : SimS K (tPar i j t) (dPar i j d) := ⟨fun ρ C ad σ H DD D hR sR h k => a.run ρ C ad σ H _ _ hR sR h fun ws C1 vs H1 ad1 q1 hR1 g1 r1 => by
  split at q1
  · rename_i w x
    cases r1 with
    | cons ra rr =>
      cases rr with
      | cons rb rr =>
        cases rr
        exact ⟨_, _, rfl, k.nx _ C1 _ H1 ad1 q1 hR1 g1 (((sR.grw g1).set ra i).set rb j)⟩
  · exact q1.elim⟩
/-- x += e, of whole numbers -/
def dAug (i : Nat) (f : Int → Int → Int) (e : TD) : TDS := fun D ρ C => match ρ[i]? with
  | some (some (.d (.int a))) => e ρ C fun w C1 => match w with
    | .d (.int b) => D.nx (ρ.set i (some (.d (.int (f a b))))) C1
    | _ => False
  | _ => False
instance {i : Nat} {f : Int → Int → Int} {t : TE} {d : TD} [a : SimE K t d] : SimS K (tAug i t (ipI f)) (dAug i f d) := ⟨fun ρ C ad σ H DD D hR sR h k => by
  unfold dAug at h
  split at h
  · rename_i x hx
    obtain ⟨v, hv, rv⟩ := sR.get i _ hx
    refine ⟨v, hv, a.run ρ C ad σ H _ _ hR sR h fun w C1 u H1 ad1 q1 hR1 g1 r1 => ?_⟩
    split at q1
    · rename_i y
      exact ⟨x, y, int_at rv, int_at r1, k.nx _ C1 _ H1 ad1 q1 hR1 g1 ((sR.grw g1).set rw_int i)⟩
    · exact q1.elim
  · exact h.elim⟩
/-- while -/
def dWhile (c : TDT) (t : TDS) : TDS := fun D ρ C => ∃ I : Nat → Ws → Cs → Prop, (∃ m, I m ρ C) ∧ ∀ m ρ C, I m ρ C →
  c ρ C fun b C1 => if b = true then ∃ N : Ws → Cs → Prop, (∀ ρ' C', N ρ' C' → ∃ m', m' < m ∧ I m' ρ' C') ∧ t { D with nx := N, ct := N, bk := D.nx } ρ C1 else D.nx ρ C1
instance {c : TT} {t : TS} {x : TDT} {d : TDS} [z : SimT K c x] [a : SimS K t d] : SimS K (tWhile c t) (dWhile x d) := ⟨fun ρ C ad σ H DD D hR sR h k => by
  obtain ⟨I, ⟨m, h0⟩, h1⟩ := h
  refine ⟨fun m σ' H' => ∃ ρ' C' ad', I m ρ' C' ∧ HeapR K ad' C' H' ∧ Grw ad C H ad' C' H' ∧ SlotR K (low ad' C' H') ad' σ' ρ', ⟨m, ρ, C, ad, h0, hR, .refl, sR⟩, ?_⟩
  rintro m σ' H' ⟨ρ1, C1, ad1, q1, hR1, g1, s1⟩
  refine z.run ρ1 C1 ad1 σ' H' _ _ hR1 s1 (h1 m ρ1 C1 q1) fun b C2 H2 ad2 q2 hR2 g2 => ?_
  cases b with
  | false => exact k.nx ρ1 C2 σ' H2 ad2 q2 hR2 (g1.trans g2) (s1.grw g2)
  | true =>
    obtain ⟨N, n1, n2⟩ := q2
    refine ⟨fun σ3 H3 => ∃ ρ' C' ad', N ρ' C' ∧ HeapR K ad' C' H3 ∧ Grw ad C H ad' C' H3 ∧ SlotR K (low ad' C' H3) ad' σ3 ρ', ?_, ?_⟩
    · rintro σ3 H3 ⟨ρ3, C3, ad3, q3, hR3, g3, s3⟩
      obtain ⟨m', hm, i3⟩ := n1 ρ3 C3 q3
      exact ⟨m', hm, ρ3, C3, ad3, i3, hR3, g3, s3⟩
    · have g12 := g1.trans g2
      exact a.run ρ1 C2 ad2 σ' H2 { DD with nx := N, ct := N, bk := DD.nx } _ hR2 (s1.grw g2) n2 ⟨fun ρ3 C3 σ3 H3 ad3 q3 hR3 g3 s3 => ⟨ρ3, C3, ad3, q3, hR3, g12.trans g3, s3⟩, k.rt.grw g12, fun ρ3 C3 σ3 H3 ad3 q3 hR3 g3 s3 => k.nx ρ3 C3 σ3 H3 ad3 q3 hR3 (g12.trans g3) s3, fun ρ3 C3 σ3 H3 ad3 q3 hR3 g3 s3 => ⟨ρ3, C3, ad3, q3, hR3, g12.trans g3, s3⟩⟩⟩

/-! ## what is walked -/
abbrev ItD := Nat → Cs → Option W → Prop
abbrev TDI := Ws → Cs → (ItD → Cs → Prop) → Prop
structure LowIt (K : PySem.W.Frag) (ad : List Addr) (C : Cs) (H : Hp) (J : It) (JD : ItD) : Prop where
  stop : ∀ ad2 C2 H2 i, HeapR K ad2 C2 H2 → Grw ad C H ad2 C2 H2 → JD i C2 none → J.stop i H2
  go : ∀ ad2 C2 H2 i w, HeapR K ad2 C2 H2 → Grw ad C H ad2 C2 H2 → JD i C2 (some w) → J.go i H2
  yld : ∀ ad2 C2 H2 i w x H3, HeapR K ad2 C2 H2 → Grw ad C H ad2 C2 H2 → JD i C2 (some w) → J.yld i H2 x H3 → HeapR K ad2 C2 H3 ∧ Grw ad2 C2 H2 ad2 C2 H3 ∧ RepW K (low ad2 C2 H3) ad2 x w
class SimI (K : PySem.W.Frag) (t : TI) (d : outParam TDI) : Prop where
  run : ∀ ρ C ad σ H Rd R, HeapR K ad C H → SlotR K (low ad C H) ad σ ρ → d ρ C Rd → (∀ J JD C' H' ad', Rd JD C' → HeapR K ad' C' H' → Grw ad C H ad' C' H' → LowIt K ad' C' H' J JD → R J H') → t σ H R
def itList (ws : List W) : ItD := fun i _ r => r = ws[i]?
def itOwn (k : Nat) : ItD := fun i C r => ∃ ws, C[k]? = some (.lst ws) ∧ r = ws[i]?
def itOwnT (k : Nat) : ItD := fun i C r => ∃ ws, C[k]? = some (.tup ws) ∧ r = ws[i]?
def itRng (lo : Int) (n : Nat) : ItD := fun i _ r => r = if i < n then some (.d (.int (lo + i))) else none
def dRng1 (a : TDA) : TDI := fun ρ C R => a ρ C fun ws C1 => match ws with
  | [.d (.int j)] => (-(2 ^ 62) ≤ j ∧ j < 2 ^ 62) ∧ R (itRng 0 j.toNat) C1
  | _ => False
def dRng2 (a : TDA) : TDI := fun ρ C R => a ρ C fun ws C1 => match ws with
  | [.d (.int i), .d (.int j)] => R (itRng i (j - i).toNat) C1
  | _ => False
theorem prd_atR {α β : Type} {R : α → β → Prop} {xs : List α} {ys : List β} (h : Paired R xs ys) : ∀ {i : Nat} {y : β}, ys[i]? = some y → ∃ x, xs[i]? = some x ∧ R x y := by
  intro i y hy
  have hi := (List.getElem?_eq_some_iff.mp hy).1
  have hx : i < xs.length := by rw [prd_len h]; exact hi
  obtain ⟨y', hy', r⟩ := prd_at h (List.getElem?_eq_getElem hx)
  rw [hy] at hy'
  cases hy'
  exact ⟨_, List.getElem?_eq_getElem hx, r⟩
theorem low_rng {ad : List Addr} {C : Cs} {H : Hp} {lo : Int} {n : Nat} : LowIt K ad C H (Itr lo n) (itRng lo n) := by
  refine ⟨fun ad2 C2 H2 i hR g e => ?_, fun ad2 C2 H2 i w hR g e => ?_, fun ad2 C2 H2 i w x H3 hR g e y => ?_⟩
  · have e : none = if i < n then some (W.d (.int (lo + i))) else none := e
    show n ≤ i
    split at e
    · cases e
    · omega
  · have e : some w = if i < n then some (W.d (.int (lo + i))) else none := e
    show i < n
    split at e
    · assumption
    · cases e
  · have e : some w = if i < n then some (W.d (.int (lo + i))) else none := e
    obtain ⟨rfl, rfl⟩ := y
    split at e
    · cases e
      exact ⟨hR, .refl, rw_int⟩
    · cases e
theorem one_at {P : List V → Prop} {ws : List W} {L : Hp} {ad : List Addr} {vs : List V} (r : RepWs K L ad vs ws) {w : W} (e : ws = [w]) (h : ∀ v, RepW K L ad v w → P [v]) : P vs := by
  subst e
  cases r with
  | cons r1 rr => cases rr; exact h _ r1
instance {t : TA} {d : TDA} [a : SimA K t d] : SimI K (iRng1 t) (dRng1 d) := ⟨fun ρ C ad σ H Rd R hR sR h k => a.run ρ C ad σ H _ _ hR sR h fun ws C1 vs H1 ad1 q1 hR1 g1 r1 => by
  split at q1
  · rename_i j
    cases r1 with
    | cons ra rr =>
      cases rr
      exact ⟨j, by rw [int_at ra], q1.1.1, q1.1.2, k _ _ C1 H1 ad1 q1.2 hR1 g1 low_rng⟩
  · exact q1.elim⟩
instance {t : TA} {d : TDA} [a : SimA K t d] : SimI K (iRng2L t) (dRng2 d) := ⟨fun ρ C ad σ H Rd R hR sR h k => a.run ρ C ad σ H _ _ hR sR h fun ws C1 vs H1 ad1 q1 hR1 g1 r1 => by
  split at q1
  · rename_i i j
    cases r1 with
    | cons ra rr =>
      cases rr with
      | cons rb rr =>
        cases rr
        exact ⟨i, j, by rw [int_at ra, int_at rb], k _ _ C1 H1 ad1 q1 hR1 g1 low_rng⟩
  · exact q1.elim⟩
def rowIt (C : Cs) : W → Option ItD
  | .d (.lst ds) => some (itList (ds.map W.d))
  | .d (.tup ds) => some (itList (ds.map W.d))
  | .o k => match C[k]? with
    | some (.lst _) => some (itOwn k)
    | some (.tup _) => some (itOwnT k)
    | _ => none
  | _ => none
def dSeqI (e : TD) : TDI := fun ρ C R => e ρ C fun w C1 => match rowIt C1 w with
  | some J => R J C1
  | none => False
theorem low_lst {ad : List Addr} {C : Cs} {H : Hp} {a : Addr} {xs : List V} {ws : List W} (h : SqL K (low ad C H) a xs) (r : RepWs K (low ad C H) ad xs ws) : LowIt K ad C H (Itl K a) (itList ws) := by
  have sq : ∀ {ad2 C2 H2}, Grw ad C H ad2 C2 H2 → SqL K H2 a xs := fun g => (low_same _ _ _).seq (g.low.seq h)
  refine ⟨fun ad2 C2 H2 i hR g e => ?_, fun ad2 C2 H2 i w hR g e => ?_, fun ad2 C2 H2 i w x H3 hR g e y => ?_⟩
  · have e : none = ws[i]? := e
    exact ⟨xs, sq g, by rw [prd_len r]; exact List.getElem?_eq_none_iff.mp e.symm⟩
  · have e : some w = ws[i]? := e
    obtain ⟨x, hx, _⟩ := prd_atR r e.symm
    exact ⟨xs, x, sq g, hx⟩
  · have e : some w = ws[i]? := e
    obtain ⟨rfl, y⟩ := y
    have hx := y xs (sq g)
    obtain ⟨w', hw, rv⟩ := prd_at r hx
    rw [← e] at hw
    cases hw
    exact ⟨hR, .refl, rv.grw g⟩
theorem low_ltup {ad : List Addr} {C : Cs} {H : Hp} {a : Addr} {xs : List V} {ws : List W} (h : ∀ {ad2 C2 H2}, HeapR K ad2 C2 H2 → Grw ad C H ad2 C2 H2 → SqT K H2 a xs) (r : RepWs K (low ad C H) ad xs ws) : LowIt K ad C H (Itt K a) (itList ws) := by
  refine ⟨fun ad2 C2 H2 i hR g e => ?_, fun ad2 C2 H2 i w hR g e => ?_, fun ad2 C2 H2 i w x H3 hR g e y => ?_⟩
  · have e : none = ws[i]? := e
    exact ⟨xs, h hR g, by rw [prd_len r]; exact List.getElem?_eq_none_iff.mp e.symm⟩
  · have e : some w = ws[i]? := e
    obtain ⟨x, hx, _⟩ := prd_atR r e.symm
    exact ⟨xs, x, h hR g, hx⟩
  · have e : some w = ws[i]? := e
    obtain ⟨rfl, y⟩ := y
    have hx := y xs (h hR g)
    obtain ⟨w', hw, rv⟩ := prd_at r hx
    rw [← e] at hw
    cases hw
    exact ⟨hR, .refl, rv.grw g⟩
theorem low_own {ad : List Addr} {C : Cs} {H : Hp} {a : Addr} {k : Nat} (ha : ad[k]? = some a) : LowIt K ad C H (Itl K a) (itOwn k) := by
  refine ⟨fun ad2 C2 H2 i hR g e => ?_, fun ad2 C2 H2 i w hR g e => ?_, fun ad2 C2 H2 i w x H3 hR g e y => ?_⟩
  · obtain ⟨ws, hc, e⟩ := e
    obtain ⟨vs, h1, h2⟩ := hR.rep k a _ (g.pre k a ha) hc
    exact ⟨vs, SqL.of h1, by rw [prd_len h2]; exact List.getElem?_eq_none_iff.mp e.symm⟩
  · obtain ⟨ws, hc, e⟩ := e
    obtain ⟨vs, h1, h2⟩ := hR.rep k a _ (g.pre k a ha) hc
    obtain ⟨x, hx, _⟩ := prd_atR h2 e.symm
    exact ⟨vs, x, SqL.of h1, hx⟩
  · obtain ⟨ws, hc, e⟩ := e
    obtain ⟨rfl, y⟩ := y
    obtain ⟨vs, h1, h2⟩ := hR.rep k a _ (g.pre k a ha) hc
    have hx := y vs (SqL.of h1)
    obtain ⟨w', hw, rv⟩ := prd_at h2 hx
    rw [← e] at hw
    cases hw
    exact ⟨hR, .refl, rv⟩
theorem low_ownT {ad : List Addr} {C : Cs} {H : Hp} {a : Addr} {k : Nat} (ha : ad[k]? = some a) : LowIt K ad C H (Itt K a) (itOwnT k) := by
  refine ⟨fun ad2 C2 H2 i hR g e => ?_, fun ad2 C2 H2 i w hR g e => ?_, fun ad2 C2 H2 i w x H3 hR g e y => ?_⟩
  · obtain ⟨ws, hc, e⟩ := e
    obtain ⟨vs, h1, h2⟩ := hR.rep k a _ (g.pre k a ha) hc
    exact ⟨vs, SqT.of h1, by rw [prd_len h2]; exact List.getElem?_eq_none_iff.mp e.symm⟩
  · obtain ⟨ws, hc, e⟩ := e
    obtain ⟨vs, h1, h2⟩ := hR.rep k a _ (g.pre k a ha) hc
    obtain ⟨x, hx, _⟩ := prd_atR h2 e.symm
    exact ⟨vs, x, SqT.of h1, hx⟩
  · obtain ⟨ws, hc, e⟩ := e
    obtain ⟨rfl, y⟩ := y
    obtain ⟨vs, h1, h2⟩ := hR.rep k a _ (g.pre k a ha) hc
    have hx := y vs (SqT.of h1)
    obtain ⟨w', hw, rv⟩ := prd_at h2 hx
    rw [← e] at hw
    cases hw
    exact ⟨hR, .refl, rv⟩
/-- a list or a tuple is walked, told behind its making -/
def iRow (K : PySem.W.Frag) (tl : TE) : TI := fun σ H R => tl σ H fun x H1 => ∃ a, x = .ref a ∧ (((∃ xs, SqL K H1 a xs) ∧ R (Itl K a) H1) ∨ ((∃ xs, SqT K H1 a xs) ∧ R (Itt K a) H1))
theorem pi_row (K : PySem.W.Frag) {X : Cx} {tg l : PySem.Expr} {tl : TE} (hl : PE X l tl) (hK : X.K = K := by rfl) : PI X tg l (iRow K tl) := by
  subst hK
  refine ⟨fun pn sh σ G R J h => thn (hl.run pn sh σ G _ J h) fun v s1 ⟨x, G1, J1, r1, q1⟩ => ?_⟩
  obtain ⟨a, rfl, q1⟩ := q1
  cases r1
  have fp : ∀ b ∈ [s1.heap.objs.size], FpOk X pn G1 b := fun b hb => by
    rw [List.mem_singleton.mp hb]
    exact J1.fpOk (Nat.le_refl _) (J1.hok.fresh (Nat.le_refl _))
  have kp : ∀ (n : String) (fs : Array Value) b o, s1.heap.get? b = some o → (s1.heap.push { cls := .type n, data := .fields fs }).get? b = some o := fun _ _ b o e => Heap.get?_push_of_some _ e
  rcases q1 with ⟨⟨xs, hq⟩, q⟩ | ⟨⟨xs, hq⟩, q⟩
  · obtain ⟨us, rel, isL, hz⟩ := J1.list hq
    exact wpAny_pyIter_list isL.isList ⟨_, _, _, _, G1, rfl, J1.kept (t' := s1.toks) (kp _ _), turn_list a _, ⟨_, Heap.get?_push_size _ rfl, rfl, rfl⟩, fp, q⟩
  · obtain ⟨us, rel, isT, hz⟩ := J1.tuple hq
    exact wpAny_pyIter_tuple (show s1.heap.IsTuple a us.toArray from isT) ⟨_, _, _, _, G1, rfl, J1.kept (t' := s1.toks) (kp _ _), turn_tuple a _, ⟨_, Heap.get?_push_size _ rfl, rfl, rfl⟩, fp, q⟩
instance {t : TE} {d : TD} [a : SimE K t d] : SimI K (iRow K t) (dSeqI d) := ⟨fun ρ C ad σ H Rd R hR sR h k => a.run ρ C ad σ H _ _ hR sR h fun w C1 v H1 ad1 q1 hR1 g1 r1 => by
  split at q1
  · rename_i J e
    cases w with
    | d x =>
      cases x with
      | lst ds =>
        cases e
        have r2 : At K _ v (.lst ds) := r1
        unfold At at r2
        obtain ⟨p, xs, rfl, h1, h2⟩ := r2
        exact ⟨p, rfl, .inl ⟨⟨xs, (low_same _ _ _).seq h1⟩, k _ _ C1 H1 ad1 q1 hR1 g1 (low_lst h1 (rep_ats h2))⟩⟩
      | tup ds =>
        cases e
        have r2 : At K _ v (.tup ds) := r1
        unfold At at r2
        obtain ⟨p, xs, rfl, h1, h2⟩ := r2
        exact ⟨p, rfl, .inr ⟨⟨xs, sameT (low_same _ _ _) h1⟩, k _ _ C1 H1 ad1 q1 hR1 g1 (low_ltup (fun _ g => sameT ((g.low).trans (low_same _ _ _)) h1) (rep_ats h2))⟩⟩
      | _ => cases e
    | o j =>
      obtain ⟨p, hp, rfl⟩ := r1
      dsimp only [rowIt] at e
      split at e
      · rename_i ws hc
        cases e
        obtain ⟨vs, h1, h2⟩ := hR1.rep j p _ hp hc
        exact ⟨p, rfl, .inl ⟨⟨vs, SqL.of h1⟩, k _ _ C1 H1 ad1 q1 hR1 g1 (low_own hp)⟩⟩
      · rename_i ws hc
        cases e
        obtain ⟨vs, h1, h2⟩ := hR1.rep j p _ hp hc
        exact ⟨p, rfl, .inr ⟨⟨vs, SqT.of h1⟩, k _ _ C1 H1 ad1 q1 hR1 g1 (low_ownT hp)⟩⟩
      · cases e
  · exact q1.elim⟩
def dStrI (e : TD) : TDI := fun ρ C R => e ρ C fun w C1 => match w with
  | .d (.str z) => R (itList (z.map fun c => W.d (.str [c]))) C1
  | _ => False
theorem low_its {ad : List Addr} {C : Cs} {H : Hp} {z : List Nat} : LowIt K ad C H (Its (tx z)) (itList (z.map fun c => W.d (.str [c]))) := by
  have sz : (tx z).cps.size = z.length := by unfold tx; simp
  have gt : ∀ i : Nat, (tx z).cps[i]? = z[i]? := fun i => by unfold tx; simp
  refine ⟨fun ad2 C2 H2 i hR g e => ?_, fun ad2 C2 H2 i w hR g e => ?_, fun ad2 C2 H2 i w x H3 hR g e y => ?_⟩
  · have e : none = (z.map fun c => W.d (.str [c]))[i]? := e
    show (tx z).cps.size ≤ i
    have := List.getElem?_eq_none_iff.mp e.symm
    rw [List.length_map] at this
    omega
  · have e : some w = (z.map fun c => W.d (.str [c]))[i]? := e
    show i < (tx z).cps.size
    have := (List.getElem?_eq_some_iff.mp e.symm).1
    rw [List.length_map] at this
    omega
  · have e : some w = (z.map fun c => W.d (.str [c]))[i]? := e
    obtain ⟨rfl, c, hc, rfl⟩ := y
    rw [gt] at hc
    rw [List.getElem?_map, hc] at e
    cases e
    exact ⟨hR, .refl, rw_str (z := [c]) (by show 1 ≤ 1000000; decide)⟩
instance {t : TE} {d : TD} [a : SimE K t d] : SimI K (iStr t) (dStrI d) := ⟨fun ρ C ad σ H Rd R hR sR h k => a.run ρ C ad σ H _ _ hR sR h fun w C1 v H1 ad1 q1 hR1 g1 r1 => by
  split at q1
  · rename_i z
    exact ⟨_, (str_at r1).1, k _ _ C1 H1 ad1 q1 hR1 g1 low_its⟩
  · exact q1.elim⟩
/-- enumerate: pairs of a number and a thing -/
def itEnum (ws : List W) : ItD := fun i _ r => match ws[i]? with
  | none => r = none
  | some (.d x) => r = some (.d (.tup [.int (i : Nat), x]))
  | some (.o _) => False
def dEnum (a : TDA) : TDI := fun ρ C R => a ρ C fun ws C1 => match ws with
  | [.d (.lst ds)] => R (itEnum (ds.map W.d)) C1
  | [.d (.tup ds)] => R (itEnum (ds.map W.d)) C1
  | _ => False
theorem itEnum_some {ds : List Dt} {i : Nat} {C : Cs} {w : W} (h : itEnum (ds.map W.d) i C (some w)) : ∃ x, ds[i]? = some x ∧ w = .d (.tup [.int (i : Nat), x]) := by
  unfold itEnum at h
  rw [List.getElem?_map] at h
  cases e : ds[i]? with
  | none => rw [e] at h; cases h
  | some x => rw [e] at h; cases h; exact ⟨x, rfl, rfl⟩
theorem itEnum_none {ds : List Dt} {i : Nat} {C : Cs} (h : itEnum (ds.map W.d) i C none) : ds.length ≤ i := by
  unfold itEnum at h
  rw [List.getElem?_map] at h
  cases e : ds[i]? with
  | none => exact List.getElem?_eq_none_iff.mp e
  | some x => rw [e] at h; cases h
theorem enum_yld {ad ad2 : List Addr} {C C2 : Cs} {H H2 H3 : Hp} {xs : List V} {ds : List Dt} {i : Nat} {w : W} {x : V} (r : Ats K (low ad C H) xs ds) (hR : HeapR K ad2 C2 H2) (g : Grw ad C H ad2 C2 H2) (e : itEnum (ds.map W.d) i C2 (some w)) (y : YPair (fun i => some (.int (i : Nat))) (fun i => xs[i]?) i H2 x H3) :
    HeapR K ad2 C2 H3 ∧ Grw ad2 C2 H2 ad2 C2 H3 ∧ RepW K (low ad2 C2 H3) ad2 x w := by
  obtain ⟨z, hz, rfl⟩ := itEnum_some e
  obtain ⟨T, u, t, rfl, e2, rfl, e4, e5⟩ := y
  cases e4
  have e5 : xs[i]? = some t := e5
  obtain ⟨z', hz', az⟩ := r.at e5
  rw [hz] at hz'
  cases hz'
  refine ⟨hR.same (same_upd e2), grw_same (same_upd e2), ?_⟩
  refine put_tup (ds := [.int (i : Nat), z]) hR e2 (.cons rw_int (.cons ?_ .nil))
  exact At.same g.low _ _ az
theorem low_enum {ad : List Addr} {C : Cs} {H : Hp} {a : Addr} {xs : List V} {ds : List Dt} (h : SqL K (low ad C H) a xs) (r : Ats K (low ad C H) xs ds) : LowIt K ad C H (Ite K a) (itEnum (ds.map W.d)) := by
  have sq : ∀ {ad2 C2 H2}, Grw ad C H ad2 C2 H2 → SqL K H2 a xs := fun g => (low_same _ _ _).seq (g.low.seq h)
  have W0 := walk_enum (K := K) (a := a) (xs := xs)
  have ln := r.len
  refine ⟨fun ad2 C2 H2 i hR g e => ?_, fun ad2 C2 H2 i w hR g e => ?_, fun ad2 C2 H2 i w x H3 hR g e y => ?_⟩
  · exact ⟨xs, sq g, by have := itEnum_none e; omega⟩
  · obtain ⟨x, hx, rfl⟩ := itEnum_some e
    exact W0.1 i H2 (by have := (List.getElem?_eq_some_iff.mp hx).1; omega) (sq g)
  · obtain ⟨z, hz, _⟩ := itEnum_some e
    exact enum_yld r hR g e (W0.3 i H2 x H3 (by have := (List.getElem?_eq_some_iff.mp hz).1; omega) (sq g) y)
theorem low_enumT {ad : List Addr} {C : Cs} {H : Hp} {a : Addr} {xs : List V} {ds : List Dt} (h : SqT K (low ad C H) a xs) (r : Ats K (low ad C H) xs ds) : LowIt K ad C H (IteT K a) (itEnum (ds.map W.d)) := by
  have sq : ∀ {ad2 C2 H2}, Grw ad C H ad2 C2 H2 → SqT K H2 a xs := fun g => sameT (g.low.trans (low_same _ _ _)) h
  have W0 := walkEnT (K := K) (a := a) (xs := xs)
  have ln := r.len
  refine ⟨fun ad2 C2 H2 i hR g e => ?_, fun ad2 C2 H2 i w hR g e => ?_, fun ad2 C2 H2 i w x H3 hR g e y => ?_⟩
  · exact ⟨xs, sq g, by have := itEnum_none e; omega⟩
  · obtain ⟨x, hx, rfl⟩ := itEnum_some e
    exact W0.1 i H2 (by have := (List.getElem?_eq_some_iff.mp hx).1; omega) (sq g)
  · obtain ⟨z, hz, _⟩ := itEnum_some e
    exact enum_yld r hR g e (W0.3 i H2 x H3 (by have := (List.getElem?_eq_some_iff.mp hz).1; omega) (sq g) y)
instance {t : TA} {d : TDA} [a : SimA K t d] : SimI K (iEnumR K t) (dEnum d) := ⟨fun ρ C ad σ H Rd R hR sR h k => a.run ρ C ad σ H _ _ hR sR h fun ws C1 vs H1 ad1 q1 hR1 g1 r1 => by
  split at q1
  · rename_i ds
    cases r1 with
    | cons ra rr =>
      cases rr
      rename_i v
      have r2 : At K _ v (.lst ds) := ra
      unfold At at r2
      obtain ⟨p, xs, rfl, h1, h2⟩ := r2
      exact ⟨p, xs, rfl, .inl ⟨(low_same _ _ _).seq h1, k _ _ C1 H1 ad1 q1 hR1 g1 (low_enum h1 h2)⟩⟩
  · rename_i ds
    cases r1 with
    | cons ra rr =>
      cases rr
      rename_i v
      have r2 : At K _ v (.tup ds) := ra
      unfold At at r2
      obtain ⟨p, xs, rfl, h1, h2⟩ := r2
      exact ⟨p, xs, rfl, .inr ⟨sameT (low_same _ _ _) h1, k _ _ C1 H1 ad1 q1 hR1 g1 (low_enumT h1 h2)⟩⟩
  · exact q1.elim⟩

/-! ## for -/
def DFor (J : ItD) (g : TDG) (t : TDS) (D : DEnds) (ρ : Ws) (C : Cs) : Prop := ∃ I : Nat → Nat → Ws → Cs → Prop, (∃ m, I 0 m ρ C) ∧ ∀ i m ρ C, I i m ρ C → (J i C none ∧ D.nx ρ C) ∨ ∃ w, J i C (some w) ∧
  ∃ N : Ws → Cs → Prop, (∀ ρ' C', N ρ' C' → ∃ m', m' < m ∧ I (i + 1) m' ρ' C') ∧ g w ρ C fun ρ2 C2 => t { D with nx := N, ct := N, bk := D.nx } ρ2 C2
def dFor (wi : TDI) (g : TDG) (t : TDS) : TDS := fun D ρ C => wi ρ C fun J C1 => DFor J g t D ρ C1
instance {wi : TI} {g : TG} {t : TS} {di : TDI} {dg : TDG} {d : TDS} [a : SimI K wi di] [b : SimG K g dg] [c : SimS K t d] : SimS K (tFor wi g t) (dFor di dg d) := ⟨fun ρ C ad σ H DD D hR sR h k => a.run ρ C ad σ H _ _ hR sR h fun J JD C1 H1 ad1 q1 hR1 g1 lw => by
  obtain ⟨I, ⟨m, h0⟩, hs⟩ := q1
  refine ⟨fun i m σ' H' => ∃ ρ' C' ad', I i m ρ' C' ∧ HeapR K ad' C' H' ∧ Grw ad1 C1 H1 ad' C' H' ∧ SlotR K (low ad' C' H') ad' σ' ρ', ⟨m, ρ, C1, ad1, h0, hR1, .refl, sR.grw g1⟩, ?_⟩
  rintro i m σ' H' ⟨ρ2, C2, ad2, i2, hR2, g2, s2⟩
  rcases hs i m ρ2 C2 i2 with ⟨st, q⟩ | ⟨w, hw, N, n1, n2⟩
  · exact .inl ⟨lw.stop ad2 C2 H' i hR2 g2 st, k.nx ρ2 C2 σ' H' ad2 q hR2 (g1.trans g2) s2⟩
  · refine .inr ⟨lw.go ad2 C2 H' i w hR2 g2 hw, fun σ3 H3 => ∃ ρ' C' ad', N ρ' C' ∧ HeapR K ad' C' H3 ∧ Grw ad1 C1 H1 ad' C' H3 ∧ SlotR K (low ad' C' H3) ad' σ3 ρ', ?_, ?_⟩
    · rintro σ3 H3 ⟨ρ3, C3, ad3, q3, hR3, g3, s3⟩
      obtain ⟨m', hm, i3⟩ := n1 ρ3 C3 q3
      exact ⟨m', hm, ρ3, C3, ad3, i3, hR3, g3, s3⟩
    · intro x H3 y
      obtain ⟨hR3, g3, rx⟩ := lw.yld ad2 C2 H' i w x H3 hR2 g2 hw y
      refine b.run x w ρ2 C2 ad2 σ' H3 _ _ hR3 (s2.grw g3) rx n2 fun ρ4 C4 σ4 H4 ad4 q4 hR4 g4 s4 => ?_
      have g14 := g2.trans (g3.trans g4)
      have g04 := g1.trans g14
      exact c.run ρ4 C4 ad4 σ4 H4 { DD with nx := N, ct := N, bk := DD.nx } _ hR4 s4 q4 ⟨fun ρ5 C5 σ5 H5 ad5 q5 hR5 g5 s5 => ⟨ρ5, C5, ad5, q5, hR5, g14.trans g5, s5⟩, k.rt.grw g04, fun ρ5 C5 σ5 H5 ad5 q5 hR5 g5 s5 => k.nx ρ5 C5 σ5 H5 ad5 q5 hR5 (g04.trans g5) s5, fun ρ5 C5 σ5 H5 ad5 q5 hR5 g5 s5 => ⟨ρ5, C5, ad5, q5, hR5, g14.trans g5, s5⟩⟩⟩
section
variable {g : TDG} {t : TDS} {D : DEnds} {ρ : Ws} {C : Cs}
/-- a for over n things, whatever J says of the i-th -/
theorem DFor.by {J : ItD} (n : Nat) (f : Nat → W) (P : Nat → Ws → Cs → Prop) (h0 : P 0 ρ C) (hn : ∀ ρ C, P n ρ C → J n C none ∧ D.nx ρ C)
    (hs : ∀ i ρ C, i < n → P i ρ C → J i C (some (f i)) ∧ g (f i) ρ C fun ρ2 C2 => t { D with nx := P (i + 1), ct := P (i + 1), bk := D.nx } ρ2 C2) : DFor J g t D ρ C := by
  refine ⟨fun i m ρ C => m = n - i ∧ i ≤ n ∧ P i ρ C, ⟨n, rfl, Nat.zero_le _, h0⟩, ?_⟩
  rintro i m ρ C ⟨rfl, hi, p⟩
  by_cases lt : i < n
  · obtain ⟨j, q⟩ := hs i ρ C lt p
    exact .inr ⟨f i, j, P (i + 1), fun ρ' C' p' => ⟨n - (i + 1), by omega, rfl, lt, p'⟩, q⟩
  · have e : i = n := by omega
    subst e
    exact .inl (hn ρ C p)
theorem DFor.range {lo : Int} {n : Nat} (P : Nat → Ws → Cs → Prop) (h0 : P 0 ρ C) (hn : ∀ ρ C, P n ρ C → D.nx ρ C)
    (hs : ∀ i ρ C, i < n → P i ρ C → g (.d (.int (lo + i))) ρ C fun ρ2 C2 => t { D with nx := P (i + 1), ct := P (i + 1), bk := D.nx } ρ2 C2) : DFor (itRng lo n) g t D ρ C :=
  DFor.by n (fun i => .d (.int (lo + i))) P h0 (fun ρ C p => ⟨(if_neg (Nat.lt_irrefl n)).symm, hn ρ C p⟩) fun i ρ C hi p => ⟨(if_pos hi).symm, hs i ρ C hi p⟩
theorem DFor.list {ws : List W} (P : Nat → Ws → Cs → Prop) (h0 : P 0 ρ C) (hn : ∀ ρ C, P ws.length ρ C → D.nx ρ C)
    (hs : ∀ i w ρ C, ws[i]? = some w → P i ρ C → g w ρ C fun ρ2 C2 => t { D with nx := P (i + 1), ct := P (i + 1), bk := D.nx } ρ2 C2) : DFor (itList ws) g t D ρ C := by
  refine DFor.by ws.length (fun i => ws.getD i (.o 0)) P h0 (fun ρ C p => ⟨(List.getElem?_eq_none_iff.mpr (Nat.le_refl _)).symm, hn ρ C p⟩) fun i ρ C hi p => ?_
  have e : ws[i]? = some (ws.getD i (.o 0)) := by rw [List.getD_eq_getElem?_getD, List.getElem?_eq_getElem hi]; rfl
  exact ⟨e.symm, hs i _ ρ C e p⟩
theorem DFor.dlist {ds : List Dt} (P : Nat → Ws → Cs → Prop) (h0 : P 0 ρ C) (hn : ∀ ρ C, P ds.length ρ C → D.nx ρ C)
    (hs : ∀ i x ρ C, ds[i]? = some x → P i ρ C → g (.d x) ρ C fun ρ2 C2 => t { D with nx := P (i + 1), ct := P (i + 1), bk := D.nx } ρ2 C2) : DFor (itList (ds.map W.d)) g t D ρ C := by
  refine DFor.list P h0 (fun ρ C p => hn ρ C (by rw [List.length_map] at p; exact p)) fun i w ρ C hw p => ?_
  rw [List.getElem?_map] at hw
  cases e : ds[i]? with
  | none => rw [e] at hw; cases hw
  | some x => rw [e] at hw; cases hw; exact hs i x ρ C e p
theorem DFor.enum {ds : List Dt} (P : Nat → Ws → Cs → Prop) (h0 : P 0 ρ C) (hn : ∀ ρ C, P ds.length ρ C → D.nx ρ C)
    (hs : ∀ i x ρ C, ds[i]? = some x → P i ρ C → g (.d (.tup [.int (i : Nat), x])) ρ C fun ρ2 C2 => t { D with nx := P (i + 1), ct := P (i + 1), bk := D.nx } ρ2 C2) : DFor (itEnum (ds.map W.d)) g t D ρ C := by
  refine DFor.by ds.length (fun i => .d (.tup [.int (i : Nat), ds.getD i .non])) P h0 (fun ρ C p => ⟨?_, hn ρ C p⟩) fun i ρ C hi p => ?_
  · unfold itEnum
    rw [List.getElem?_map, List.getElem?_eq_none_iff.mpr (Nat.le_refl _)]
    rfl
  · have e : ds[i]? = some (ds.getD i .non) := by rw [List.getD_eq_getElem?_getD, List.getElem?_eq_getElem hi]; rfl
    refine ⟨?_, hs i _ ρ C e p⟩
    unfold itEnum
    rw [List.getElem?_map, e]
    rfl
theorem DFor.own {k : Nat} {ws : List W} (P : Nat → Ws → Cs → Prop) (h0 : P 0 ρ C) (hc : ∀ i ρ C, P i ρ C → C[k]? = some (.lst ws)) (hn : ∀ ρ C, P ws.length ρ C → D.nx ρ C)
    (hs : ∀ i w ρ C, ws[i]? = some w → P i ρ C → g w ρ C fun ρ2 C2 => t { D with nx := P (i + 1), ct := P (i + 1), bk := D.nx } ρ2 C2) : DFor (itOwn k) g t D ρ C := by
  refine DFor.by ws.length (fun i => ws.getD i (.o 0)) P h0 (fun ρ C p => ⟨⟨ws, hc _ ρ C p, (List.getElem?_eq_none_iff.mpr (Nat.le_refl _)).symm⟩, hn ρ C p⟩) fun i ρ C hi p => ?_
  have e : ws[i]? = some (ws.getD i (.o 0)) := by rw [List.getD_eq_getElem?_getD, List.getElem?_eq_getElem hi]; rfl
  exact ⟨⟨ws, hc _ ρ C p, e.symm⟩, hs i _ ρ C e p⟩
end
end
end BK

namespace BK
open PySem PySem.Spec PyProof.Rows L2

/-! ## cells that are forgotten -/
def cws : Cell → List W
  | .lst ws => ws
  | .tup ws => ws
  | .dK kvs => kvs.map (·.2)
  | .dT kvs => kvs.map (·.2)
  | .ins _ fs => fs.map (·.2)
  | .fz => []
def Clo (n : Nat) (c : Cell) : Prop := ∀ w ∈ cws c, ∀ k, w = .o k → k < n
structure Kp (C0 C1 : Cs) : Prop where
  len : C1.length = C0.length
  old : ∀ (i : Nat) c, C1[i]? = some c → C0[i]? = some c ∨ Clo C0.length c
theorem Kp.refl (C : Cs) : Kp C C := ⟨rfl, fun _ _ h => .inl h⟩
theorem clo_lst {n : Nat} {ws : List W} {ds : List Dt} (h : allD ws = some ds) : Clo n (.lst ws) := fun w hw k e => by
  rw [allD_of h] at hw
  obtain ⟨x, _, rfl⟩ := List.mem_map.mp (show w ∈ ds.map W.d from hw)
  cases e
theorem Kp.set {C0 C1 : Cs} (h : Kp C0 C1) {i : Nat} {c : Cell} (hc : Clo C0.length c) : Kp C0 (C1.set i c) := by
  refine ⟨by rw [List.length_set]; exact h.len, fun j x hx => ?_⟩
  by_cases e : i = j
  · subst e
    rw [getE_set, if_pos rfl] at hx
    split at hx
    · cases hx
      exact .inr hc
    · cases hx
  · rw [getE_set, if_neg e] at hx
    exact h.old j x hx
section
variable {K : PySem.W.Frag} {H H0 : Hp} {ad ad0 : List Addr} {C C0 C1 : Cs}
theorem mem_prd {α β : Type} {R : α → β → Prop} {xs : List α} {ys : List β} (h : Paired R xs ys) {y : β} (hy : y ∈ ys) : ∃ x, R x y := by
  obtain ⟨i, hi⟩ := List.getElem?_of_mem hy
  obtain ⟨x, _, r⟩ := prd_atR h hi
  exact ⟨x, r⟩
theorem HeapR.clo (h : HeapR K ad C H) {i : Nat} {c : Cell} (hc : C[i]? = some c) : Clo C.length c := by
  obtain ⟨a, ha, r⟩ := h.get hc
  have lt : ∀ {v : V} {k : Nat}, RepW K (low ad C H) ad v (.o k) → k < C.length := fun r => by
    obtain ⟨a, h1, _⟩ := r
    rw [← h.len]
    exact (List.getElem?_eq_some_iff.mp h1).1
  intro w hw k e
  subst e
  cases c with
  | lst ws => obtain ⟨vs, _, r⟩ := r; obtain ⟨x, r⟩ := mem_prd r hw; exact lt r
  | tup ws => obtain ⟨vs, _, r⟩ := r; obtain ⟨x, r⟩ := mem_prd r hw; exact lt r
  | dK ws => obtain ⟨vs, _, r⟩ := r; obtain ⟨p, hp, e⟩ := List.mem_map.mp hw; obtain ⟨x, r⟩ := mem_prd r hp; rw [e] at r; exact lt r.2
  | dT ws => obtain ⟨vs, _, r⟩ := r; obtain ⟨p, hp, e⟩ := List.mem_map.mp hw; obtain ⟨x, r⟩ := mem_prd r hp; rw [e] at r; exact lt r.2
  | ins c ws => obtain ⟨dx, vs, _, r⟩ := r; obtain ⟨p, hp, e⟩ := List.mem_map.mp hw; obtain ⟨x, r⟩ := mem_prd r hp; rw [e] at r; exact lt r.2
  | fz => cases hw
theorem RepW.cut {L L' : Hp} {v : V} {w : W} {n : Nat} (h : RepW K L ad v w) (e : Same L L') (hc : ∀ k, w = .o k → k < n) (p : ∀ (k : Nat) a, k < n → ad[k]? = some a → ad0[k]? = some a) : RepW K L' ad0 v w := by
  cases w with
  | d x => exact At.same e x v h
  | o k => obtain ⟨a, h1, h2⟩ := h; exact ⟨a, p k a (hc k rfl) h1, h2⟩
theorem prd_mem {α β : Type} {R S : α → β → Prop} {xs : List α} {ys : List β} (h : Paired R xs ys) (f : ∀ x y, y ∈ ys → R x y → S x y) : Paired S xs ys := by
  induction h with
  | nil => exact .nil
  | cons r t ih => exact .cons (f _ _ (List.mem_cons_self ..) r) (ih fun x y hy => f x y (List.mem_cons_of_mem _ hy))
theorem RepC.cut {L L' : Hp} {a : Addr} {c : Cell} {n : Nat} (h : RepC K L ad H a c) (e : Same L L') (hc : Clo n c) (p : ∀ (k : Nat) a, k < n → ad[k]? = some a → ad0[k]? = some a) : RepC K L' ad0 H a c := by
  have kv : ∀ {κ : Type} {ks : List (κ × V)} {kvs : List (κ × W)}, (∀ w ∈ kvs.map (·.2), ∀ k, w = W.o k → k < n) → Paired (fun p q => p.1 = q.1 ∧ RepW K L ad p.2 q.2) ks kvs → Paired (fun p q => p.1 = q.1 ∧ RepW K L' ad0 p.2 q.2) ks kvs := fun hk h => prd_mem h fun x y hy r => ⟨r.1, r.2.cut e (hk _ (List.mem_map.mpr ⟨y, hy, rfl⟩)) p⟩
  have pl : ∀ {vs : List V} {ws : List W}, (∀ w ∈ ws, ∀ k, w = W.o k → k < n) → RepWs K L ad vs ws → RepWs K L' ad0 vs ws := fun hk h => prd_mem h fun x y hy r => r.cut e (hk _ hy) p
  cases c with
  | lst ws => obtain ⟨vs, h1, h2⟩ := h; exact ⟨vs, h1, pl hc h2⟩
  | tup ws => obtain ⟨vs, h1, h2⟩ := h; exact ⟨vs, h1, pl hc h2⟩
  | dK ws => obtain ⟨vs, h1, h2⟩ := h; exact ⟨vs, h1, kv hc h2⟩
  | dT ws => obtain ⟨vs, h1, h2⟩ := h; exact ⟨vs, h1, kv hc h2⟩
  | ins c ws => obtain ⟨dx, vs, h1, h2⟩ := h; exact ⟨dx, vs, h1, kv hc h2⟩
  | fz => trivial
theorem low_cut (p : ∀ (i : Nat) a, ad0[i]? = some a → ad[i]? = some a) {ex : Cs} (hC : C = C1 ++ ex) : Same (low ad C H) (low ad0 C1 H) := fun b o h => by
  obtain ⟨h1, h2⟩ := low_at h
  rw [low_of (fun z => h1 ?_)]
  · exact h2
  · obtain ⟨i, c, z1, z2, z3⟩ := z
    exact ⟨i, c, p i b z1, by rw [hC, List.getElem?_append_left (List.getElem?_eq_some_iff.mp z2).1]; exact z2, z3⟩
theorem back_pre (h0 : HeapR K ad0 C0 H0) (p : ∀ (i : Nat) a, ad0[i]? = some a → ad[i]? = some a) : ∀ (k : Nat) a, k < C0.length → ad[k]? = some a → ad0[k]? = some a := fun k a hk ha => by
  have : k < ad0.length := by rw [h0.len]; exact hk
  have e := p k _ (List.getElem?_eq_getElem this)
  rw [ha] at e
  cases e
  exact List.getElem?_eq_getElem this
/-- the cells behind the first ones are forgotten -/
theorem HeapR.drop (h0 : HeapR K ad0 C0 H0) (h : HeapR K ad C H) (g : Grw ad0 C0 H0 ad C H) {ex : Cs} (hC : C = C1 ++ ex) (kp : Kp C0 C1) : HeapR K ad0 C1 H ∧ Grw ad0 C0 H0 ad0 C1 H := by
  have lw := low_cut (H := H) g.pre hC
  have bp := back_pre h0 g.pre
  refine ⟨⟨by rw [kp.len]; exact h0.len, h0.nd, fun i a ha => h.tr i a (g.pre i a ha), fun i a c ha hc => ?_⟩, ⟨fun _ _ z => z, g.low.trans lw⟩⟩
  have hc' : C[i]? = some c := by rw [hC, List.getElem?_append_left (List.getElem?_eq_some_iff.mp hc).1]; exact hc
  exact (h.rep i a c (g.pre i a ha) hc').cut lw ((kp.old i c hc).elim h0.clo id) bp
/-- .. but one, a list -/
theorem HeapR.drop1 (h0 : HeapR K ad0 C0 H0) (h : HeapR K ad C H) (g : Grw ad0 C0 H0 ad C H) {ex : Cs} (hC : C = C1 ++ ex) (kp : Kp C0 C1) {i : Nat} {a : Addr} {ds : List Dt} (hi : C0.length ≤ i) (ha : ad[i]? = some a) (hc : C[i]? = some (.lst (ds.map W.d))) :
    At K (low ad0 C1 H) (.ref a) (.lst ds) ∧ HeapR K (ad0 ++ [a]) (C1 ++ [.lst (ds.map W.d)]) H ∧ Grw ad0 C0 H0 (ad0 ++ [a]) (C1 ++ [.lst (ds.map W.d)]) H := by
  obtain ⟨hd, gd⟩ := h0.drop h g hC kp
  have lw := low_cut (H := H) g.pre hC
  obtain ⟨vs, h1, h2⟩ := h.rep i a _ ha hc
  have na : ∀ j, ad0[j]? = some a → False := fun j hj => by
    have e := h.nd i j a ha (g.pre j a hj)
    have := (List.getElem?_eq_some_iff.mp hj).1
    rw [h0.len] at this
    omega
  have nh : ¬ Hid ad0 C1 a := fun ⟨j, c, z1, _, _⟩ => na j z1
  have hid2 : ∀ b, b ≠ a → (Hid (ad0 ++ [a]) (C1 ++ [.lst (ds.map W.d)]) b ↔ Hid ad0 C1 b) := fun b e => by
    constructor
    · rintro ⟨j, x, z1, z2, z3⟩
      by_cases hj : j < ad0.length
      · rw [List.getElem?_append_left hj] at z1
        rw [List.getElem?_append_left (by rw [kp.len, ← h0.len]; exact hj)] at z2
        exact ⟨j, x, z1, z2, z3⟩
      · have : j = ad0.length := by
          have := (List.getElem?_eq_some_iff.mp z1).1
          rw [List.length_append, List.length_singleton] at this
          omega
        subst this
        rw [List.getElem?_concat_length] at z1
        exact absurd (Option.some.inj z1).symm e
    · rintro ⟨j, x, z1, z2, z3⟩
      exact ⟨j, x, by rw [List.getElem?_append_left (List.getElem?_eq_some_iff.mp z1).1]; exact z1, by rw [List.getElem?_append_left (List.getElem?_eq_some_iff.mp z2).1]; exact z2, z3⟩
  have vat : Ats K (low ad C H) vs ds := ats_of h2
  have lw2 : Same (low ad C H) (low (ad0 ++ [a]) (C1 ++ [.lst (ds.map W.d)]) H) := fun b o z => by
    have e : b ≠ a := fun e => by
      subst e
      exact (low_at z).1 ⟨i, _, ha, hc, fun y => by cases y⟩
    have z2 := lw b o z
    obtain ⟨z3, z4⟩ := low_at z2
    rw [low_of (fun y => z3 ((hid2 b e).mp y))]
    exact z4
  refine ⟨?_, ⟨?_, ?_, ?_, ?_⟩, ⟨pre_new, g.low.trans lw2⟩⟩
  · unfold At
    exact ⟨a, vs, rfl, SqL.of (by rw [low_of nh]; exact h1), Ats.same lw _ _ vat⟩
  · rw [List.length_append, List.length_append, kp.len, h0.len]
    rfl
  · intro j k b hj hk
    have cs : ∀ (j : Nat) b, (ad0 ++ [a])[j]? = some b → ad0[j]? = some b ∨ (j = ad0.length ∧ b = a) := fun j b hj => by
      by_cases lt : j < ad0.length
      · rw [List.getElem?_append_left lt] at hj
        exact .inl hj
      · have : j = ad0.length := by
          have := (List.getElem?_eq_some_iff.mp hj).1
          rw [List.length_append, List.length_singleton] at this
          omega
        subst this
        rw [List.getElem?_concat_length] at hj
        exact .inr ⟨rfl, (Option.some.inj hj).symm⟩
    rcases cs j b hj with z1 | ⟨z1, z2⟩ <;> rcases cs k b hk with z3 | ⟨z3, z4⟩
    · exact h0.nd j k b z1 z3
    · rw [z4] at z1
      exact (na j z1).elim
    · rw [z2] at z3
      exact (na k z3).elim
    · rw [z1, z3]
  · intro j b hj
    by_cases lt : j < ad0.length
    · rw [List.getElem?_append_left lt] at hj
      exact h.tr j b (g.pre j b hj)
    · have : j = ad0.length := by
        have := (List.getElem?_eq_some_iff.mp hj).1
        rw [List.length_append, List.length_singleton] at this
        omega
      subst this
      rw [List.getElem?_concat_length] at hj
      cases hj
      exact h.tr i a ha
  · intro j b c hj hx
    by_cases lt : j < ad0.length
    · rw [List.getElem?_append_left lt] at hj
      rw [List.getElem?_append_left (by rw [kp.len, ← h0.len]; exact lt)] at hx
      have hc' : C[j]? = some c := by rw [hC, List.getElem?_append_left (List.getElem?_eq_some_iff.mp hx).1]; exact hx
      exact ((h.rep j b c (g.pre j b hj) hc').cut lw2 ((kp.old j c hx).elim h0.clo id) (back_pre h0 g.pre)).mono rfl (Same.refl _) pre_new
    · have : j = ad0.length := by
        have := (List.getElem?_eq_some_iff.mp hj).1
        rw [List.length_append, List.length_singleton] at this
        omega
      subst this
      rw [List.getElem?_concat_length] at hj
      cases hj
      rw [h0.len, ← kp.len, List.getElem?_concat_length] at hx
      cases hx
      exact ⟨vs, h1, rep_ats (Ats.same lw2 _ _ vat)⟩
/-- what is left at an end: all cells, or the first ones alone -/
def Fin (C0 : Cs) (w : W) (C : Cs) (Q : W → Cs → Prop) : Prop := Q w C ∨
  (∃ x C1 ex, w = .d x ∧ C = C1 ++ ex ∧ Kp C0 C1 ∧ Q (.d x) C1) ∨
  (∃ i ws ds C1 ex, w = .o i ∧ C[i]? = some (.lst ws) ∧ allD ws = some ds ∧ C0.length ≤ i ∧ C = C1 ++ ex ∧ Kp C0 C1 ∧ (Q (.d (.lst ds)) C1 ∨ Q (.o C0.length) (C1 ++ [.lst ws])))
theorem fin_run {v : V} {w : W} {Qd : W → Cs → Prop} {Q : VK} (h0 : HeapR K ad0 C0 H0) (h : HeapR K ad C H) (g : Grw ad0 C0 H0 ad C H) (r : RepW K (low ad C H) ad v w) (f : Fin C0 w C Qd) (k : ContD K ad0 C0 H0 Qd Q) : Q v H := by
  rcases f with q | ⟨x, C1, ex, rfl, hC, kp, q⟩ | ⟨i, ws, ds, C1, ex, rfl, hc, hd, hi, hC, kp, q⟩
  · exact k _ _ _ _ _ q h g r
  · obtain ⟨h1, g1⟩ := h0.drop h g hC kp
    exact k _ _ _ _ _ q h1 g1 (At.same (low_cut g.pre hC) _ _ r)
  · obtain ⟨a, ha, rfl⟩ := r
    have e := allD_of hd
    subst e
    obtain ⟨z1, z2, z3⟩ := h0.drop1 h g hC kp hi ha hc
    obtain ⟨h1, g1⟩ := h0.drop h g hC kp
    rcases q with q | q
    · exact k _ _ _ _ _ q h1 g1 z1
    · exact k _ _ _ _ _ q z2 z3 ⟨a, by rw [← h0.len]; exact List.getElem?_concat_length, rfl⟩
end

/-! ## comprehensions -/
/-- a target that changes the comprehension's own slots alone -/
class SimGC (K : PySem.W.Frag) (t : TG) (vs : List Nat) (d : outParam TDG) : Prop where
  run : ∀ v w ρ C ad σ H Qd Q, HeapR K ad C H → SlotR K (low ad C H) ad σ ρ → RepW K (low ad C H) ad v w → d w ρ C Qd → (∀ ρ' C' σ' H' ad', Qd ρ' C' → HeapR K ad' C' H' → Grw ad C H ad' C' H' → SlotR K (low ad' C' H') ad' σ' ρ' → wipe σ' vs = wipe σ vs → Q σ' H') → t v σ H Q
section
variable {K : PySem.W.Frag}
theorem wipe_get (σ : L2.St) : ∀ (vs : List Nat) (j : Nat), (wipe σ vs)[j]? = if j ∈ vs then (if j < σ.length then some none else none) else σ[j]?
  | [], j => by rw [if_neg (by simp)]; rfl
  | v :: vs, j => by
    show ((wipe σ vs).set v none)[j]? = _
    rw [getE_set, wipe_length, wipe_get σ vs j]
    by_cases e : v = j
    · subst e
      rw [if_pos rfl, if_pos (List.mem_cons_self ..)]
    · rw [if_neg e]
      by_cases h : j ∈ vs
      · rw [if_pos h, if_pos (List.mem_cons_of_mem _ h)]
      · rw [if_neg h, if_neg (fun z => by rcases List.mem_cons.mp z with z | z; exact e z.symm; exact h z)]
theorem wipe_set {σ : L2.St} {vs : List Nat} {i : Nat} {x : Option V} (h : i ∈ vs) : wipe (σ.set i x) vs = wipe σ vs := by
  refine List.ext_getElem? fun j => ?_
  rw [wipe_get, wipe_get, List.length_set, getE_set]
  by_cases hj : j ∈ vs
  · rw [if_pos hj, if_pos hj]
  · rw [if_neg hj, if_neg hj, if_neg (fun e => hj (by rw [← e]; exact h))]
theorem wipe_wipe (σ : L2.St) (vs : List Nat) : wipe (wipe σ vs) vs = wipe σ vs := by
  refine List.ext_getElem? fun j => ?_
  rw [wipe_get, wipe_get, wipe_length]
  by_cases hj : j ∈ vs
  · rw [if_pos hj, if_pos hj]
  · rw [if_neg hj, if_neg hj]
instance {i : Nat} : SimGC K (gName i) [i] (dName i) := ⟨fun v w ρ C ad σ H Qd Q hR sR r h k => k _ C _ H ad h hR .refl (sR.set r i) (wipe_set (List.mem_singleton_self i))⟩
theorem two_of {α : Type} {ws : List α} (h : ws.length = 2) : ∃ a b, ws = [a, b] := by
  match ws, h with
  | [a, b], _ => exact ⟨a, b, rfl⟩
instance {i j : Nat} : SimGC K (gSeq K 2 (gCons (gName i) (gCons (gName j) gNil))) [i, j] (dgTup 2 (dgCons (dName i) (dgCons (dName j) dgNil))) := ⟨fun v w ρ C ad σ H Qd Q hR sR r h k => by
  unfold dgTup at h
  split at h
  · rename_i ws e
    obtain ⟨p, xs, rfl, hr, hx⟩ := row_of' hR r e
    obtain ⟨hl, h⟩ := h
    obtain ⟨w1, w2, rfl⟩ := two_of hl
    have hx : Paired (RepW K (low ad C H) ad) xs [w1, w2] := hx
    cases hx with
    | cons r1 hx =>
      cases hx with
      | cons r2 hx =>
        cases hx
        refine gSeq.row hr rfl ⟨_, _, rfl, _, _, rfl, rfl, ?_⟩
        have s2 := (sR.set r1 i).set r2 j
        have e1 : ∀ a b : Option V, wipe ((σ.set i a).set j b) [i, j] = wipe σ [i, j] := fun a b => by
          rw [wipe_set (List.mem_cons_of_mem _ (List.mem_singleton_self j)), wipe_set (List.mem_cons_self ..)]
        exact k _ C _ H ad h.2 hR .refl s2 (e1 _ _)
  · exact h.elim⟩
def dYes : TDT := fun _ C Q => Q true C
instance : SimT K tYes dYes := ⟨fun ρ C ad σ H Qd Q hR sR h k => k true C H ad h hR .refl⟩
def DLc (J : ItD) (g : TDG) (t : TDT) (e : TD) (ρ0 : Ws) (C : Cs) (j : Nat) (Q : W → Cs → Prop) : Prop := ∃ I : Nat → Nat → Cs → Prop, (∃ m, I 0 m (C ++ [.lst []])) ∧ ∀ i m C, I i m C → (J i C none ∧ Q (.o j) C) ∨ ∃ w, J i C (some w) ∧
  ∃ N : Cs → Prop, (∀ C', N C' → ∃ m', m' < m ∧ I (i + 1) m' C') ∧ g w ρ0 C fun ρ2 C2 => t ρ2 C2 fun b C3 => if b = true then e ρ2 C3 fun y C4 => ∃ acc, C4[j]? = some (.lst acc) ∧ acc.length < 16777216 ∧ N (C4.set j (.lst (acc ++ [y]))) else N C3
def dLc (wi : TDI) (g : TDG) (t : TDT) (e : TD) (vs : List Nat) : TD := fun ρ C Q => wi ρ C fun J C1 => DLc J g t e (wipeW ρ vs) C1 C1.length fun w C' => Fin C w C' Q
instance {wi : TI} {g : TG} {t : TT} {e : TE} {vs : List Nat} {di : TDI} {dg : TDG} {dt : TDT} {de : TD} [a : SimI K wi di] [b : SimGC K g vs dg] [c : SimT K t dt] [f : SimE K e de] : SimE K (tLc wi g t e vs) (dLc di dg dt de vs) := ⟨fun ρ C ad σ H Qd Q hR sR h k => a.run ρ C ad σ H _ _ hR sR h fun J JD C1 H1 ad1 q1 hR1 g1 lw D nD => by
  obtain ⟨I, ⟨m, h0⟩, hs⟩ := q1
  obtain ⟨hRn, gn⟩ := hR1.new (a := D) (o := .lst []) (c := .lst []) nD (fun z => by cases z) ⟨[], upd_same, .nil⟩
  have jat : (ad1 ++ [D])[C1.length]? = some D := by rw [← hR1.len]; exact List.getElem?_concat_length
  refine ⟨fun i m H' => ∃ C' ad', I i m C' ∧ HeapR K ad' C' H' ∧ Grw (ad1 ++ [D]) (C1 ++ [.lst []]) (upd H1 D (.lst [])) ad' C' H', ⟨m, _, _, h0, hRn, .refl⟩, ?_⟩
  rintro i m H' ⟨C2, ad2, i2, hR2, g2⟩
  have jat2 := g2.pre _ _ jat
  have g12 := gn.trans g2
  rcases hs i m C2 i2 with ⟨st, q⟩ | ⟨w, hw, N, n1, n2⟩
  · exact .inl ⟨lw.stop ad2 C2 H' i hR2 g12 st, fin_run (w := .o C1.length) hR hR2 (g1.trans g12) ⟨D, jat2, rfl⟩ q k⟩
  · refine .inr ⟨lw.go ad2 C2 H' i w hR2 g12 hw, fun H3 => ∃ C' ad', N C' ∧ HeapR K ad' C' H3 ∧ Grw (ad1 ++ [D]) (C1 ++ [.lst []]) (upd H1 D (.lst [])) ad' C' H3, ?_, ?_⟩
    · rintro H3 ⟨C3, ad3, q3, hR3, g3⟩
      obtain ⟨m', hm, i3⟩ := n1 C3 q3
      exact ⟨m', hm, C3, ad3, i3, hR3, g3⟩
    · intro x H3 y
      obtain ⟨hR3, g3, rx⟩ := lw.yld ad2 C2 H' i w x H3 hR2 g12 hw y
      have s3 := ((sR.grw g1).grw (g12.trans g3)).wipe vs
      refine b.run x w _ C2 ad2 _ H3 _ _ hR3 s3 rx n2 fun ρ4 C4 σ4 H4 ad4 q4 hR4 g4 s4 ws => ⟨by rw [ws, wipe_wipe], ?_⟩
      refine c.run ρ4 C4 ad4 σ4 H4 _ _ hR4 s4 q4 fun z C5 H5 ad5 q5 hR5 g5 => ?_
      have g25 := g2.trans (g3.trans (g4.trans g5))
      cases z with
      | false => exact ⟨C5, ad5, q5, hR5, g25⟩
      | true =>
        refine f.run ρ4 C5 ad5 σ4 H5 _ _ hR5 (s4.grw g5) q5 fun y C6 v H6 ad6 q6 hR6 g6 r6 => ?_
        obtain ⟨acc, hc, hl, hn⟩ := q6
        have g26 := g25.trans g6
        have jat6 := g26.pre _ _ jat
        obtain ⟨vs6, hv6, rv6⟩ := hR6.rep _ _ _ jat6 hc
        obtain ⟨hR7, g7⟩ := hR6.set (o := .lst (vs6 ++ [v])) (c := .lst (acc ++ [y])) jat6 hc (fun z => by cases z) (fun z => by cases z) ⟨_, upd_same, prd_snoc rv6 r6⟩
        exact ⟨vs6, hv6, by rw [prd_len rv6, line_is]; exact hl, _, ad6, hn, hR7, g26.trans g7⟩⟩
/-- over n things, each told by f (or left out), with nothing else done -/
theorem DLc.pureF {J : ItD} {g : TDG} {t : TDT} {e : TD} {ρ0 : Ws} {C : Cs} {Q : W → Cs → Prop} (n : Nat) (it : Nat → W) (f : Nat → Option Dt) (hn : n ≤ 16777216) (hJ : ∀ i C, J i C (if i < n then some (it i) else none))
    (hs : ∀ i acc (R : W → Cs → Prop) (S : Cs → Prop), i < n → (match f i with | some x => R (.d x) (C ++ [.lst acc]) | none => S (C ++ [.lst acc])) → g (it i) ρ0 (C ++ [.lst acc]) fun ρ2 C2 => t ρ2 C2 fun b C3 => if b = true then e ρ2 C3 R else S C3) (q : Q (.d (.lst ((List.range n).filterMap f))) C) :
    DLc J g t e ρ0 C C.length (fun w C' => Fin C w C' Q) := by
  have last : ∀ (c : Cell), (C ++ [c])[C.length]? = some c := fun c => List.getElem?_concat_length
  have put : ∀ (c x : Cell), (C ++ [c]).set C.length x = C ++ [x] := fun c x => by rw [List.set_append_right _ _ (Nat.le_refl _), Nat.sub_self]; rfl
  refine ⟨fun i m C' => m = n - i ∧ i ≤ n ∧ C' = C ++ [.lst (((List.range i).filterMap f).map W.d)], ⟨n, rfl, Nat.zero_le _, rfl⟩, ?_⟩
  rintro i m C' ⟨rfl, hi, rfl⟩
  have hj := hJ i (C ++ [.lst (((List.range i).filterMap f).map W.d)])
  by_cases lt : i < n
  · rw [if_pos lt] at hj
    have next : List.range (i + 1) = List.range i ++ [i] := List.range_succ
    refine .inr ⟨it i, hj, fun C' => C' = C ++ [.lst (((List.range (i + 1)).filterMap f).map W.d)], fun C' e => ⟨n - (i + 1), by omega, rfl, lt, e⟩, hs i _ _ _ lt ?_⟩
    cases e : f i with
    | some x =>
      refine ⟨_, last _, ?_, ?_⟩
      · rw [List.length_map]
        have := List.length_filterMap_le f (List.range i)
        rw [List.length_range] at this
        omega
      · rw [put, next, List.filterMap_append, List.map_append]
        simp only [List.filterMap_cons, e, List.filterMap_nil, List.map_cons, List.map_nil]
    | none =>
      show _ = C ++ [Cell.lst (((List.range (i + 1)).filterMap f).map W.d)]
      rw [next, List.filterMap_append]
      simp only [List.filterMap_cons, e, List.filterMap_nil, List.append_nil]
  · rw [if_neg lt] at hj
    have en : i = n := by omega
    subst en
    exact .inl ⟨hj, .inr (.inr ⟨_, _, _, C, _, rfl, last _, allD_map _, Nat.le_refl _, rfl, .refl C, .inl q⟩)⟩
theorem DLc.pure {J : ItD} {g : TDG} {t : TDT} {e : TD} {ρ0 : Ws} {C : Cs} {Q : W → Cs → Prop} (n : Nat) (it : Nat → W) (f : Nat → Dt) (hn : n ≤ 16777216) (hJ : ∀ i C, J i C (if i < n then some (it i) else none))
    (hs : ∀ i acc (R : W → Cs → Prop) (S : Cs → Prop), i < n → R (.d (f i)) (C ++ [.lst acc]) → g (it i) ρ0 (C ++ [.lst acc]) fun ρ2 C2 => t ρ2 C2 fun b C3 => if b = true then e ρ2 C3 R else S C3) (q : Q (.d (.lst ((List.range n).map f))) C) :
    DLc J g t e ρ0 C C.length (fun w C' => Fin C w C' Q) :=
  DLc.pureF n it (fun i => some (f i)) hn hJ (fun i acc R S lt h => hs i acc R S lt h) (by rw [show (fun i => some (f i)) = some ∘ f from rfl, ← List.filterMap_map, List.filterMap_some]; exact q)
theorem itRng_if {lo : Int} {n : Nat} (i : Nat) (C : Cs) : itRng lo n i C (if i < n then some (.d (.int (lo + i))) else none) := rfl
theorem itList_if {ds : List Dt} (i : Nat) (C : Cs) : itList (ds.map W.d) i C (if i < ds.length then some (.d (ds.getD i .non)) else none) := by
  show _ = (ds.map W.d)[i]?
  rw [List.getElem?_map]
  by_cases h : i < ds.length
  · rw [if_pos h, List.getD_eq_getElem?_getD, List.getElem?_eq_getElem h]
    rfl
  · rw [if_neg h, List.getElem?_eq_none_iff.mpr (by omega)]
    rfl
theorem range_getD {ds : List Dt} {β : Type} (f : Dt → β) : (List.range ds.length).map (fun i => f (ds.getD i .non)) = ds.map f := by
  refine List.ext_getElem? fun i => ?_
  rw [List.getElem?_map, List.getElem?_map]
  by_cases h : i < ds.length
  · rw [List.getElem?_range h, List.getElem?_eq_getElem h]
    show some (f (ds.getD i .non)) = some (f ds[i])
    rw [List.getD_eq_getElem?_getD, List.getElem?_eq_getElem h]
    rfl
  · rw [List.getElem?_eq_none_iff.mpr (by rw [List.length_range]; omega), List.getElem?_eq_none_iff.mpr (by omega)]
    rfl
/-- .. over a row's things -/
theorem DLc.row {ds : List Dt} {g : TDG} {t : TDT} {e : TD} {ρ0 : Ws} {C : Cs} {Q : W → Cs → Prop} (f : Dt → Dt) (hn : ds.length ≤ 16777216)
    (hs : ∀ x acc (R : W → Cs → Prop) (S : Cs → Prop), x ∈ ds → R (.d (f x)) (C ++ [.lst acc]) → g (.d x) ρ0 (C ++ [.lst acc]) fun ρ2 C2 => t ρ2 C2 fun b C3 => if b = true then e ρ2 C3 R else S C3) (q : Q (.d (.lst (ds.map f))) C) :
    DLc (itList (ds.map W.d)) g t e ρ0 C C.length (fun w C' => Fin C w C' Q) := by
  refine DLc.pure ds.length (fun i => .d (ds.getD i .non)) (fun i => f (ds.getD i .non)) hn itList_if (fun i acc R S lt h => ?_) (by rw [range_getD f]; exact q)
  refine hs (ds.getD i .non) acc R S ?_ h
  rw [List.getD_eq_getElem?_getD, List.getElem?_eq_getElem lt]
  exact List.getElem_mem lt

/-! ## defs -/
def ret (C0 : Cs) (Q : W → Cs → Prop) : W → Cs → Prop := fun w C => Fin C0 w C Q
theorem ret.same {C0 C : Cs} {Q : W → Cs → Prop} {w : W} (q : Q w C) : ret C0 Q w C := .inl q
/-- a thing is told, the cells are as at the start, and some more -/
theorem ret.thing {C : Cs} {Q : W → Cs → Prop} {x : Dt} {ex : Cs} (q : Q (.d x) C) : ret C Q (.d x) (C ++ ex) := .inr (.inl ⟨x, C, ex, rfl, rfl, .refl C, q⟩)
/-- a list that was made here is told as a thing -/
theorem ret.made {C : Cs} {Q : W → Cs → Prop} {i : Nat} {ds : List Dt} {ex : Cs} (hi : C.length ≤ i) (hc : (C ++ ex)[i]? = some (.lst (ds.map W.d))) (q : Q (.d (.lst ds)) C) : ret C Q (.o i) (C ++ ex) :=
  .inr (.inr ⟨i, _, ds, C, ex, rfl, hc, allD_map ds, hi, rfl, .refl C, .inl q⟩)
theorem ret.own {C : Cs} {Q : W → Cs → Prop} {i : Nat} {ds : List Dt} {ex : Cs} (hi : C.length ≤ i) (hc : (C ++ ex)[i]? = some (.lst (ds.map W.d))) (q : Q (.o C.length) (C ++ [.lst (ds.map W.d)])) : ret C Q (.o i) (C ++ ex) :=
  .inr (.inr ⟨i, _, ds, C, ex, rfl, hc, allD_map ds, hi, rfl, .refl C, .inr q⟩)
def startD (N : List Str) (ws : List W) : Ws := ws.map some ++ List.replicate (N.length - ws.length) none
end
end BK

namespace BK
open PySem PySem.Spec PyProof.Rows L2
section
variable {P : Program} {w : World} {K : PySem.W.Frag} {mg : Str → Option Value} {base : Heap}
theorem start_slots {L : Hp} {ad : List Addr} {N : List Str} {vs : List V} {ws : List W} (r : RepWs K L ad vs ws) : SlotR K L ad (L2.start N vs) (startD N ws) := by
  have hl := prd_len r
  refine ⟨by unfold L2.start startD; simp only [List.length_append, List.length_map, List.length_replicate, hl], fun i x hx => ?_⟩
  unfold startD at hx
  unfold L2.start
  by_cases h : i < ws.length
  · rw [List.getElem?_append_left (by rw [List.length_map]; exact h), List.getElem?_map] at hx
    cases e : ws[i]? with
    | none => rw [e] at hx; cases hx
    | some y =>
      rw [e] at hx
      cases hx
      obtain ⟨v, hv, rv⟩ := prd_atR r e
      exact ⟨v, by rw [List.getElem?_append_left (by rw [List.length_map, hl]; exact h), List.getElem?_map, hv]; rfl, rv⟩
  · rw [List.getElem?_append_right (by rw [List.length_map]; omega), List.getElem?_replicate] at hx
    split at hx <;> cases hx
theorem ends_ret {ad : List Addr} {C : Cs} {H : Hp} {Pd : W → Cs → Prop} {Q : VK} (hR : HeapR K ad C H) (k : ContD K ad C H Pd Q) : EndsR K ad C H { nx := fun _ C' => ret C Pd (.d .non) C', rt := ret C Pd } { nx := fun _ H' => Q .non H', rt := Q } :=
  ⟨fun ρ' C' σ' H' ad' q hR' g s => fin_run (w := .d .non) hR hR' g rw_non q k, fun w C' v H' ad' q hR' g r => fin_run hR hR' g r q k, fun _ _ _ _ _ q => q.elim, fun _ _ _ _ _ q => q.elim⟩
/-- a def over worths -/
theorem okD {x ql : Str} {st : Stmt} {f : Addr} {fd : FuncData} {N ps : List Str} {k : Nat} {sp : SpD} (F : Fun K x ql st f fd) (S : FnScope N ps (defScope st)) (ln : ∀ ws C Q X, sp ws C Q X → ws.length = ps.length)
    (hb : ∀ (cv : Value) (A : Around) (out : List Env) (s : Shared) (H : Hp) (E : XK), Room k (A.deeper (envOfC ql (defScope st) s.heap.objs.size f cv)) →
      ∃ t, PSs (cxOf CX0 P w K mg base N ql (defScope st) f cv A out s H E).nox (defBody st) t ∧ ∃ d, SimS K t d ∧ ∀ ws C Q X, sp ws C Q X → d { nx := fun _ C' => ret C Q (.d .non) C', rt := ret C Q } (startD N ws) C) : FnOk P w K mg base CX0 (k + 1) f fd ps (lft K sp) := by
  refine F.ok S (fun vs H Q E h => ?_) (fun cv A out s H vs Q E hr h => ?_)
  · obtain ⟨ws, C, ad, Pd, Xd, hR, rv, h, _⟩ := h
    exact (prd_len rv).trans (ln _ _ _ _ h)
  · obtain ⟨ws, C, ad, Pd, Xd, hR, rv, h, kd, kx⟩ := h
    obtain ⟨t, ht, d, sim, hd⟩ := hb cv A out s H E hr
    exact ⟨t, ht, sim.run _ C ad _ H _ _ hR (start_slots rv) (hd _ _ _ _ h) (ends_ret hR kd)⟩
theorem okDG {x ql : Str} {st : Stmt} {f : Addr} {fd : FuncData} {N ps : List Str} {k : Nat} {sp : SpD} (F : Fun K x ql st f fd) (S : FnScope N ps (defScope st)) (ln : ∀ ws C Q X, sp ws C Q X → ws.length = ps.length)
    (hb : ∀ (cv : Value) (A : Around) (out : List Env) (s : Shared) (H : Hp) (E : XK), A.guards = some [] → Room k (A.deeper (envOfC ql (defScope st) s.heap.objs.size f cv)) →
      ∃ t, PSs (cxOf CX0 P w K mg base N ql (defScope st) f cv A out s H E).nox (defBody st) t ∧ ∃ d, SimS K t d ∧ ∀ ws C Q X, sp ws C Q X → d { nx := fun _ C' => ret C Q (.d .non) C', rt := ret C Q } (startD N ws) C) : FnG P w K mg base CX0 (k + 1) f fd ps (lft K sp) := by
  refine funG F S (fun vs H Q E h => ?_) (fun cv A out s H vs Q E hg hr h => ?_)
  · obtain ⟨ws, C, ad, Pd, Xd, hR, rv, h, _⟩ := h
    exact (prd_len rv).trans (ln _ _ _ _ h)
  · obtain ⟨ws, C, ad, Pd, Xd, hR, rv, h, kd, kx⟩ := h
    obtain ⟨t, ht, d, sim, hd⟩ := hb cv A out s H E hg hr
    exact ⟨t, ht, sim.run _ C ad _ H _ _ hR (start_slots rv) (hd _ _ _ _ h) (ends_ret hR kd)⟩
end
/-- a law's promise, from one over worths: the script as a list of numbers -/
abbrev scriptD (ns : List Int) : Dt := .lst (ns.map Dt.int)
theorem script_at {K : PySem.W.Frag} {H : Hp} {a : Addr} : ∀ {ns : List Int}, SqL K H a (ns.map V.int) → At K H (.ref a) (scriptD ns) := fun {ns} h => by
  unfold scriptD At
  refine ⟨a, _, rfl, h, ?_⟩
  clear h
  induction ns with
  | nil => unfold Ats; rfl
  | cons n ns ih => rw [List.map_cons, List.map_cons]; unfold Ats; exact ⟨_, _, rfl, by unfold At; rfl, ih⟩
def spLawD (n : Nat) : SpD := fun ws C Q _ => ∃ ns : List Int, ws = [.d (scriptD ns)] ∧ ns.length ≤ n ∧ C = [] ∧ ∀ C', Q (.d (.bl true)) C'
theorem heap0 {K : PySem.W.Frag} {H : Hp} : HeapR K [] [] H := ⟨rfl, (fun _ _ _ h => nomatch h), (fun _ _ h => nomatch h), (fun _ _ _ h => nomatch h)⟩
theorem low0 {H : Hp} : low [] [] H = H := by
  funext b
  refine low_of ?_
  rintro ⟨i, c, h, _⟩
  cases h
theorem law_lft {K : PySem.W.Frag} {n : Nat} {vs : List V} {H : Hp} {Q : VK} {E : XK} {a : Addr} {ns : List Int} (hv : vs = [.ref a]) (h : SqL K H a (ns.map V.int)) (hn : ns.length ≤ n) (q : ∀ H', Q (.bl true) H') : lft K (spLawD n) vs H Q E := by
  subst hv
  refine ⟨[.d (scriptD ns)], [], [], fun w _ => w = .d (.bl true), X0, heap0, .cons (show At K _ _ _ by rw [low0]; exact script_at h) .nil, ⟨ns, rfl, hn, rfl, fun C' => rfl⟩, ?_, contX0⟩
  intro w C' v H' ad' e hR g r
  subst e
  rw [bl_at r]
  exact q H'
/-! ## an elder promise met over worths -/
theorem At.rep {K : PySem.W.Frag} {L : Hp} {ad : List Addr} {v : V} {x : Dt} (h : At K L v x) : RepW K L ad v (.d x) := h
theorem cont_same {K : PySem.W.Frag} {ad : List Addr} {C : Cs} {H H' : Hp} {Qd : W → Cs → Prop} {Q : VK} (hR : HeapR K ad C H) (k : ContD K ad C H Qd Q) (e : Same H H') {w : W} {v : V} (q : Qd w C) (r : RepW K (low ad C H') ad v w) : Q v H' := k w C v H' ad q (hR.same e) (grw_same e) r
/-! ## what reads as a thing -/
mutual
def rds (C : Cs) : W → Dt → Prop
  | w, .lst ds => w = .d (.lst ds) ∨ ∃ i ws, w = .o i ∧ C[i]? = some (.lst ws) ∧ rdss C ws ds
  | w, .tup ds => w = .d (.tup ds) ∨ ∃ i ws, w = .o i ∧ C[i]? = some (.tup ws) ∧ rdss C ws ds
  | w, .non => w = .d .non
  | w, .bl b => w = .d (.bl b)
  | w, .int i => w = .d (.int i)
  | w, .str z => w = .d (.str z)
  | w, .dic => w = .d .dic
def rdss (C : Cs) : List W → List Dt → Prop
  | ws, [] => ws = []
  | ws, d :: ds => ∃ w us, ws = w :: us ∧ rds C w d ∧ rdss C us ds
end
theorem rds_d {C : Cs} {x : Dt} : rds C (.d x) x := by
  cases x with
  | lst ds => unfold rds; exact .inl rfl
  | tup ds => unfold rds; exact .inl rfl
  | _ => unfold rds; rfl
theorem rdss_d {C : Cs} : ∀ {ds : List Dt}, rdss C (ds.map W.d) ds
  | [] => by unfold rdss; rfl
  | d :: ds => by unfold rdss; exact ⟨_, _, rfl, rds_d, rdss_d⟩
theorem rds_own {C : Cs} {i : Nat} {ds : List Dt} (h : C[i]? = some (.lst (ds.map W.d))) : rds C (.o i) (.lst ds) := by
  unfold rds
  exact .inr ⟨i, _, rfl, h, rdss_d⟩
section
variable {K : PySem.W.Frag} {H : Hp} {ad : List Addr} {C : Cs}
mutual
theorem rds_at (hR : HeapR K ad C H) : ∀ (x : Dt) (w : W) (v : V), RepW K (low ad C H) ad v w → rds C w x → At K H v x
  | .lst ds, w, v, r, h => by
    unfold rds at h
    rcases h with rfl | ⟨i, ws, rfl, hc, h⟩
    · exact At.same (low_same _ _ _) _ _ r
    · obtain ⟨a, ha, rfl⟩ := r
      obtain ⟨vs, h1, h2⟩ := hR.rep i a _ ha hc
      unfold At
      exact ⟨a, vs, rfl, SqL.of h1, rdss_at hR ds ws vs h2 h⟩
  | .tup ds, w, v, r, h => by
    unfold rds at h
    rcases h with rfl | ⟨i, ws, rfl, hc, h⟩
    · exact At.same (low_same _ _ _) _ _ r
    · obtain ⟨a, ha, rfl⟩ := r
      obtain ⟨vs, h1, h2⟩ := hR.rep i a _ ha hc
      unfold At
      exact ⟨a, vs, rfl, SqT.of h1, rdss_at hR ds ws vs h2 h⟩
  | .non, w, v, r, h => by unfold rds at h; subst h; exact r.dAt
  | .bl b, w, v, r, h => by unfold rds at h; subst h; exact r.dAt
  | .int i, w, v, r, h => by unfold rds at h; subst h; exact r.dAt
  | .str z, w, v, r, h => by unfold rds at h; subst h; exact r.dAt
  | .dic, w, v, r, h => by unfold rds at h; subst h; exact r.dAt
theorem rdss_at (hR : HeapR K ad C H) : ∀ (ds : List Dt) (ws : List W) (vs : List V), RepWs K (low ad C H) ad vs ws → rdss C ws ds → Ats K H vs ds
  | [], ws, vs, r, h => by unfold rdss at h; subst h; cases r; unfold Ats; rfl
  | d :: ds, ws, vs, r, h => by
    unfold rdss at h
    obtain ⟨w, us, rfl, h1, h2⟩ := h
    cases r with
    | cons r1 r2 => unfold Ats; exact ⟨_, _, rfl, rds_at hR d w _ r1 h1, rdss_at hR ds us _ r2 h2⟩
end
end
end BK

namespace BK
open PySem PySem.Spec PyProof.Rows L2

/-! ## rules by values, over worths -/
section
variable {K : PySem.W.Frag}
abbrev RD2 := W → W → Cs → (W → Cs → Prop) → Prop
def dI0 (f : Int → Int → Int) : RD2 := fun x y C Q => match x, y with
  | .d (.int i), .d (.int j) => Q (.d (.int (f i j))) C
  | _, _ => False
def dB0 (f : Int → Int → Bool) : RD2 := fun x y C Q => match x, y with
  | .d (.int i), .d (.int j) => Q (.d (.bl (f i j))) C
  | _, _ => False
def dIc (c : Int → Int → Prop) (f : Int → Int → Int) : RD2 := fun x y C Q => match x, y with
  | .d (.int i), .d (.int j) => c i j ∧ Q (.d (.int (f i j))) C
  | _, _ => False
instance {f : Int → Int → Int} : Low2 K (rI0 fun i j => .int (f i j)) (dI0 f) := ⟨fun x y C ad v u H Qd Q hR rx ry h k => by
  unfold dI0 at h
  split at h
  · exact ⟨_, _, int_at rx, int_at ry, k _ C _ H ad h hR .refl rw_int⟩
  · exact h.elim⟩
instance {f : Int → Int → Bool} : Low2 K (rI0 fun i j => .bl (f i j)) (dB0 f) := ⟨fun x y C ad v u H Qd Q hR rx ry h k => by
  unfold dB0 at h
  split at h
  · exact ⟨_, _, int_at rx, int_at ry, k _ C _ H ad h hR .refl rw_bl⟩
  · exact h.elim⟩
instance {c : Int → Int → Prop} {f : Int → Int → Int} : Low2 K (rI c fun i j => .int (f i j)) (dIc c f) := ⟨fun x y C ad v u H Qd Q hR rx ry h k => by
  unfold dIc at h
  split at h
  · exact ⟨_, _, int_at rx, int_at ry, h.1, k _ C _ H ad h.2 hR .refl rw_int⟩
  · exact h.elim⟩
def dU (f : Int → Int) : W → Cs → (W → Cs → Prop) → Prop := fun x C Q => match x with
  | .d (.int i) => Q (.d (.int (f i))) C
  | _ => False
instance {f : Int → Int} : Low1 K (rU fun i => .int (f i)) (dU f) := ⟨fun x C ad v H Qd Q hR rx h k => by
  unfold dU at h
  split at h
  · exact ⟨_, int_at rx, k _ C _ H ad h hR .refl rw_int⟩
  · exact h.elim⟩
/-- scalars compared -/
def sEq : W → W → Option Bool
  | .d .non, .d .non => some true
  | .d .non, .d (.int _) => some false
  | .d (.int _), .d .non => some false
  | .d .non, .d (.bl _) => some false
  | .d (.bl _), .d .non => some false
  | .d .non, .d (.str _) => some false
  | .d (.str _), .d .non => some false
  | .d (.int i), .d (.int j) => some (decide (i = j))
  | .d (.bl i), .d (.bl j) => some (decide (i = j))
  | .d (.str i), .d (.str j) => some (decide (i = j))
  | .d (.int _), .d (.str _) => some false
  | .d (.str _), .d (.int _) => some false
  | .d (.bl _), .d (.str _) => some false
  | .d (.str _), .d (.bl _) => some false
  | _, _ => none
def dEq : RD2 := fun x y C Q => match sEq x y with
  | some b => Q (.d (.bl b)) C
  | none => False
def dNe : RD2 := fun x y C Q => match sEq x y with
  | some b => Q (.d (.bl (!b))) C
  | none => False
theorem sEq_run {L : Hp} {ad : List Addr} {v u : V} {x y : W} {b : Bool} (rx : RepW K L ad v x) (ry : RepW K L ad u y) (h : sEq x y = some b) : scal v u = true ∧ decide (v = u) = b := by
  unfold sEq at h
  split at h
  all_goals first | (cases h; done) | skip
  · cases h; rw [non_at rx, non_at ry]; exact ⟨rfl, by simp⟩
  · cases h; rw [non_at rx, int_at ry]; exact ⟨rfl, by simp⟩
  · cases h; rw [int_at rx, non_at ry]; exact ⟨rfl, by simp⟩
  · cases h; rw [non_at rx, bl_at ry]; exact ⟨rfl, by simp⟩
  · cases h; rw [bl_at rx, non_at ry]; exact ⟨rfl, by simp⟩
  · cases h; rw [non_at rx, (str_at ry).1]; exact ⟨rfl, by simp⟩
  · cases h; rw [(str_at rx).1, non_at ry]; exact ⟨rfl, by simp⟩
  · cases h; rw [int_at rx, int_at ry]; exact ⟨rfl, by simp⟩
  · cases h; rw [bl_at rx, bl_at ry]; exact ⟨rfl, by simp⟩
  · cases h
    rw [(str_at rx).1, (str_at ry).1]
    refine ⟨rfl, ?_⟩
    rename_i i j
    by_cases e : i = j
    · subst e; simp
    · rw [decide_eq_false e]
      exact decide_eq_false fun z => e (tx_inj (V.str.inj z))
  · cases h; rw [int_at rx, (str_at ry).1]; exact ⟨rfl, by simp⟩
  · cases h; rw [(str_at rx).1, int_at ry]; exact ⟨rfl, by simp⟩
  · cases h; rw [bl_at rx, (str_at ry).1]; exact ⟨rfl, by simp⟩
  · cases h; rw [(str_at rx).1, bl_at ry]; exact ⟨rfl, by simp⟩
instance : Low2 K rEq dEq := ⟨fun x y C ad v u H Qd Q hR rx ry h k => by
  unfold dEq at h
  split at h
  · rename_i b e
    obtain ⟨h1, h2⟩ := sEq_run rx ry e
    exact ⟨h1, by rw [h2]; exact k _ C _ H ad h hR .refl rw_bl⟩
  · exact h.elim⟩
instance : Low2 K rNe dNe := ⟨fun x y C ad v u H Qd Q hR rx ry h k => by
  unfold dNe at h
  split at h
  · rename_i b e
    obtain ⟨h1, h2⟩ := sEq_run rx ry e
    exact ⟨h1, by rw [h2]; exact k _ C _ H ad h hR .refl rw_bl⟩
  · exact h.elim⟩
/-- is None -/
def rIsNon : R2 := fun x y H Q => y = .non ∧ Q (.bl (decide (x = .non))) H
def rNotNon : R2 := fun x y H Q => y = .non ∧ Q (.bl (!decide (x = .non))) H
theorem q_isN {X : Cx} : OpR X (compareOp .Is) rIsNon := op_isN
theorem q_notN {X : Cx} : OpR X (compareOp .IsNot) rNotNon := op_notN
def isNon : W → Bool
  | .d .non => true
  | _ => false
theorem isNon_run {L : Hp} {ad : List Addr} {v : V} {x : W} (r : RepW K L ad v x) : decide (v = .non) = isNon x := by
  cases x with
  | o i => obtain ⟨a, _, rfl⟩ := r; rfl
  | d x =>
    have r : At K L v x := r
    cases x with
    | non => unfold At at r; rw [r]; rfl
    | bl b => unfold At at r; rw [r]; rfl
    | int b => unfold At at r; rw [r]; rfl
    | str b => unfold At at r; rw [r.1]; rfl
    | lst b => unfold At at r; obtain ⟨a, xs, rfl, _⟩ := r; rfl
    | tup b => unfold At at r; obtain ⟨a, xs, rfl, _⟩ := r; rfl
    | dic => unfold At at r; obtain ⟨a, rfl, _⟩ := r; rfl
def dIsNon : RD2 := fun x y C Q => match y with
  | .d .non => Q (.d (.bl (isNon x))) C
  | _ => False
def dNotNon : RD2 := fun x y C Q => match y with
  | .d .non => Q (.d (.bl (!isNon x))) C
  | _ => False
instance : Low2 K rIsNon dIsNon := ⟨fun x y C ad v u H Qd Q hR rx ry h k => by
  unfold dIsNon at h
  split at h
  · exact ⟨non_at ry, by rw [isNon_run rx]; exact k _ C _ H ad h hR .refl rw_bl⟩
  · exact h.elim⟩
instance : Low2 K rNotNon dNotNon := ⟨fun x y C ad v u H Qd Q hR rx ry h k => by
  unfold dNotNon at h
  split at h
  · exact ⟨non_at ry, by rw [isNon_run rx]; exact k _ C _ H ad h hR .refl rw_bl⟩
  · exact h.elim⟩
/-- x[i] -/
def ixW (C : Cs) : W → W → Option W
  | .d (.str z), .d (.int i) => (atI z i).map fun c => .d (.str [c])
  | .d (.lst ds), .d (.int i) => (atI ds i).map W.d
  | .d (.tup ds), .d (.int i) => (atI ds i).map W.d
  | .o k, .d (.int i) => match rowW C (.o k) with
    | some ws => atI ws i
    | none => none
  | _, _ => none
def dIx : RD2 := fun x y C Q => match ixW C x y with
  | some w => Q w C
  | none => False
theorem atI_prd {α β : Type} {R : α → β → Prop} {xs : List α} {ys : List β} (h : Paired R xs ys) {i : Int} {y : β} (e : atI ys i = some y) : ∃ x, atI xs i = some x ∧ R x y := by
  unfold atI at e ⊢
  rw [prd_len h]
  cases z : ixN ys.length i with
  | none => rw [z] at e; cases e
  | some j =>
    rw [z] at e
    exact prd_atR h e
theorem ats_prd {L : Hp} : ∀ {ds : List Dt} {vs : List V}, Ats K L vs ds → Paired (At K L) vs ds
  | [], vs, h => by unfold Ats at h; subst h; exact .nil
  | d :: ds, vs, h => by unfold Ats at h; obtain ⟨v, us, rfl, h1, h2⟩ := h; exact .cons h1 (ats_prd h2)
instance : Low2 K (rIx K) dIx := ⟨fun x y C ad v u H Qd Q hR rx ry h k => by
  unfold dIx at h
  split at h
  · rename_i w e
    unfold ixW at e
    split at e
    · rename_i z i
      rw [int_at ry]
      cases e1 : atI z i with
      | none => rw [e1] at e; cases e
      | some c =>
        rw [e1] at e
        cases e
        obtain ⟨rfl, hl⟩ := str_at rx
        exact ix_tx hl e1 (k _ C _ H ad h hR .refl (rw_str (z := [c]) (by show 1 ≤ 1000000; decide)))
    · rename_i ds i
      rw [int_at ry]
      cases e1 : atI ds i with
      | none => rw [e1] at e; cases e
      | some d =>
        rw [e1] at e
        cases e
        have rx : At K (low ad C H) v (.lst ds) := rx
        unfold At at rx
        obtain ⟨a, xs, rfl, h1, h2⟩ := rx
        obtain ⟨z, hz, rz⟩ := atI_prd (ats_prd h2) e1
        exact ix_row (.inl ((low_same _ _ _).seq h1)) hz (k _ C _ H ad h hR .refl rz)
    · rename_i ds i
      rw [int_at ry]
      cases e1 : atI ds i with
      | none => rw [e1] at e; cases e
      | some d =>
        rw [e1] at e
        cases e
        have rx : At K (low ad C H) v (.tup ds) := rx
        unfold At at rx
        obtain ⟨a, xs, rfl, h1, h2⟩ := rx
        obtain ⟨z, hz, rz⟩ := atI_prd (ats_prd h2) e1
        exact ix_row (.inr (sameT (low_same _ _ _) h1)) hz (k _ C _ H ad h hR .refl rz)
    · rename_i j i
      rw [int_at ry]
      split at e
      · rename_i ws e1
        obtain ⟨a, xs, rfl, hr, hx⟩ := row_of' hR rx e1
        obtain ⟨z, hz, rz⟩ := atI_prd hx e
        exact ix_row hr hz (k _ C _ H ad h hR .refl rz)
      · cases e
    · cases e
  · exact h.elim⟩
/-- len(x) -/
def lenW (C : Cs) : W → Option Nat
  | .d (.str z) => some z.length
  | .d (.lst ds) => some ds.length
  | .d (.tup ds) => some ds.length
  | .o i => match rowW C (.o i) with
    | some ws => some ws.length
    | none => none
  | _ => none
def dLen : List W → Cs → (W → Cs → Prop) → Prop := fun ws C Q => match ws with
  | [w] => match lenW C w with
    | some n => Q (.d (.int (n : Nat))) C
    | none => False
  | _ => False
theorem row_len {v : V} {w : W} {ws : List W} {ad : List Addr} {C : Cs} {H : Hp} {Q : VK} (hR : HeapR K ad C H) (r : RepW K (low ad C H) ad v w) (e : rowW C w = some ws) (q : Q (.int (ws.length : Nat)) H) : rLenA K [v] H Q := by
  obtain ⟨a, xs, rfl, hr, hx⟩ := row_of' hR r e
  exact len_row hr (by rw [prd_len hx]; exact q)
instance : LowA K (rLenA K) dLen := ⟨fun ws C ad vs H Qd Q hR r h k => by
  unfold dLen at h
  split at h
  · rename_i w
    cases r with
    | cons r1 r2 =>
      cases r2
      split at h
      · rename_i n e
        unfold lenW at e
        split at e
        · cases e
          obtain ⟨rfl, hl⟩ := str_at r1
          exact len_tx hl (k _ C _ H ad h hR .refl rw_int)
        · cases e
          exact row_len hR r1 rfl (by rw [List.length_map]; exact k _ C _ H ad h hR .refl rw_int)
        · cases e
          exact row_len hR r1 rfl (by rw [List.length_map]; exact k _ C _ H ad h hR .refl rw_int)
        · split at e
          · rename_i ws e1
            cases e
            exact row_len hR r1 e1 (k _ C _ H ad h hR .refl rw_int)
          · cases e
        · cases e
      · exact h.elim
  · exact h.elim⟩
theorem row_items {d : Dt} (h : isRow d = true) {C : Cs} : rowW C (.d d) = some (d.items.map W.d) := by
  cases d with
  | lst ds => rfl
  | tup ds => rfl
  | _ => cases h
theorem lenW_row {d : Dt} (h : isRow d = true) {C : Cs} : lenW C (.d d) = some d.items.length := by
  cases d with
  | lst ds => rfl
  | tup ds => rfl
  | _ => cases h
theorem rowIt_row {d : Dt} (h : isRow d = true) {C : Cs} : rowIt C (.d d) = some (itList (d.items.map W.d)) := by
  cases d with
  | lst ds => rfl
  | tup ds => rfl
  | _ => cases h
theorem ixW_row {d x : Dt} (h : isRow d = true) {C : Cs} {i : Int} (e : atI d.items i = some x) : ixW C (.d d) (.d (.int i)) = some (.d x) := by
  cases d with
  | lst ds => show (atI ds i).map W.d = _; rw [show atI ds i = some x from e]; rfl
  | tup ds => show (atI ds i).map W.d = _; rw [show atI ds i = some x from e]; rfl
  | _ => cases h
/-- truth -/
def tTruth (K : PySem.W.Frag) (t : TE) : TT := fun σ H Q => t σ H fun x H' => ∃ k, TruV K x H' k ∧ Q k H'
theorem pt_truthK (K : PySem.W.Frag) {X : Cx} {a : Expr} {ta : TE} (ha : PE X a ta) (he : ∀ whole, isTrue a X.env whole = (do let v ← whole; standAt a.pos; holding [v] (truthy v))) (hK : X.K = K := by rfl) : PT X a (tTruth K ta) := hK ▸ pt_truth ha he
def truW (C : Cs) : W → Option Bool
  | .d .non => some false
  | .d (.bl b) => some b
  | .d (.int i) => some (i != 0)
  | .d (.str z) => some (!z.isEmpty)
  | .d (.lst ds) => some (!ds.isEmpty)
  | .d (.tup ds) => some (!ds.isEmpty)
  | .o i => match C[i]? with
    | some (.lst ws) => some (!ws.isEmpty)
    | some (.tup ws) => some (!ws.isEmpty)
    | some (.dK kvs) => some (!kvs.isEmpty)
    | _ => none
  | _ => none
theorem prd_emp {α β : Type} {R : α → β → Prop} {xs : List α} {ys : List β} (h : Paired R xs ys) : xs.isEmpty = ys.isEmpty := by cases h <;> rfl
theorem truW_run {ad : List Addr} {C : Cs} {H : Hp} {v : V} {w : W} {b : Bool} (hR : HeapR K ad C H) (r : RepW K (low ad C H) ad v w) (h : truW C w = some b) : TruV K v H b := by
  cases w with
  | d x =>
    cases x with
    | non => cases h; rw [non_at r]; rfl
    | bl b => cases h; rw [bl_at r]; rfl
    | int i => cases h; rw [int_at r]; rfl
    | str z =>
      cases h
      obtain ⟨rfl, hl⟩ := str_at r
      refine ⟨by rw [tx_len]; exact Nat.le_trans hl (by decide), ?_⟩
      rw [tx_len]
      cases z with
      | nil => rfl
      | cons c z => rw [Bool.eq_iff_iff]; simp; omega
    | lst ds =>
      cases h
      have r : At K _ v (.lst ds) := r
      unfold At at r
      obtain ⟨a, xs, rfl, h1, h2⟩ := r
      exact .inl ⟨xs, (low_same _ _ _).seq h1, by rw [prd_emp (ats_prd h2)]⟩
    | tup ds =>
      cases h
      have r : At K _ v (.tup ds) := r
      unfold At at r
      obtain ⟨a, xs, rfl, h1, h2⟩ := r
      exact .inr (.inl ⟨xs, sameT (low_same _ _ _) h1, by rw [prd_emp (ats_prd h2)]⟩)
    | dic => cases h
  | o i =>
    obtain ⟨a, ha, rfl⟩ := r
    dsimp only [truW] at h
    split at h
    · rename_i ws hc
      cases h
      obtain ⟨vs, h1, h2⟩ := hR.rep i a _ ha hc
      exact .inl ⟨vs, SqL.of h1, by rw [prd_emp h2]⟩
    · rename_i ws hc
      cases h
      obtain ⟨vs, h1, h2⟩ := hR.rep i a _ ha hc
      exact .inr (.inl ⟨vs, SqT.of h1, by rw [prd_emp h2]⟩)
    · rename_i ws hc
      cases h
      obtain ⟨vs, h1, h2⟩ := hR.rep i a _ ha hc
      exact .inr (.inr ⟨vs, h1, by rw [prd_emp h2]⟩)
    · cases h
def dTruth (e : TD) : TDT := fun ρ C Q => e ρ C fun w C1 => match truW C1 w with
  | some b => Q b C1
  | none => False
instance {t : TE} {d : TD} [a : SimE K t d] : SimT K (tTruth K t) (dTruth d) := ⟨fun ρ C ad σ H Qd Q hR sR h k => a.run ρ C ad σ H _ _ hR sR h fun w C1 v H1 ad1 q1 hR1 g1 r1 => by
  split at q1
  · rename_i b e
    exact ⟨b, truW_run hR1 r1 e, k b C1 H1 ad1 q1 hR1 g1⟩
  · exact q1.elim⟩
/-- chains -/
instance {r r' : R2} {d d' : RD2} {ta tb tc : TE} {da db dc : TD} [l : Low2 K r d] [l' : Low2 K r' d'] [a : SimE K ta da] [b : SimE K tb db] [c : SimE K tc dc] : SimE K (tChain r r' ta tb tc) (dChain d d' da db dc) := ⟨fun ρ C ad σ H Qd Q hR sR h k =>
  a.run ρ C ad σ H _ _ hR sR h fun x C1 v H1 ad1 q1 hR1 g1 r1 => b.run ρ C1 ad1 σ H1 _ _ hR1 (sR.grw g1) q1 fun y C2 u H2 ad2 q2 hR2 g2 r2 => l.run x y C2 ad2 v u H2 _ _ hR2 (r1.grw g2) r2 q2 fun z C3 z' H3 ad3 q3 hR3 g3 r3 => by
    have g13 := (g1.trans g2).trans g3
    split at q3
    · rename_i b
      refine ⟨b, bl_at r3, ?_⟩
      cases b with
      | false => exact k _ C3 _ H3 ad3 q3 hR3 g13 rw_bl
      | true => exact c.run ρ C3 ad3 σ H3 _ _ hR3 (sR.grw g13) q3 fun t C4 t' H4 ad4 q4 hR4 g4 r4 => l'.run y t C4 ad4 u t' H4 _ _ hR4 ((r2.grw g3).grw g4) r4 q4 (k.grw (g13.trans g4))
    · exact q3.elim⟩
end
end BK

namespace BK
open PySem PySem.Spec PyProof.Rows L2
section
variable {K : PySem.W.Frag}
/-! ## lists -/
/-- two lists of any kind joined -/
def rCatL (K : PySem.W.Frag) : R2 := fun x y H Q => ∃ l b xs zs, x = .ref l ∧ y = .ref b ∧ SqL K H l xs ∧ SqL K H b zs ∧ xs.length + zs.length ≤ sizeLine ∧ ∀ p, H p = none → Q (.ref p) (upd H p (.lst (xs ++ zs)))
theorem q_cat (K : PySem.W.Frag) {X : Cx} (hK : X.K = K := by rfl) : OpR X (binaryOp .Add) (rCatL K) := by
  subst hK
  intro pn sh σ G x y v u Q J rx ry h
  obtain ⟨l, b, xs, zs, rfl, rfl, sl, sb, few, q⟩ := h
  cases rx
  cases ry
  obtain ⟨us, r1, ⟨⟨c1, d1, t1, o1⟩, n1, e1, k1, k2, k3⟩, z1⟩ := J.list sl
  obtain ⟨ws, r2, ⟨⟨c2, d2, t2, o2⟩, n2, e2, m1, m2, m3⟩, z2⟩ := J.list sb
  dsimp only at k1 k2 k3 m1 m2 m3
  subst k1 k2 k3 m1 m2 m3
  have l1 := r1.length
  have l2 := r2.length
  have sz : us.toArray.size + ws.toArray.size ≤ sizeLine := by
    simp only [List.size_toArray]
    omega
  have ea : us.toArray ++ ws.toArray = (us ++ ws).toArray := by simp
  refine concat_meets ⟨_, e1, rfl⟩ ⟨_, e2, rfl⟩ noFill_list_add seq_list_add PySem.F.slot_list_add PySem.F.entry_list_add (PySem.F.args_list_add_2 _ _) (PyProof.Rows.list_addW l b us.toArray ws.toArray n1 n2 none none o1 o2 sz) ⟨e1, e2, ?_⟩
  rw [ea]
  exact ⟨.ref _, _, J.lnew (t' := sh.toks) (r1.append r2) (by rw [List.length_append]; omega), rfl, q _ J.fresh⟩
def dCat : RD2 := fun x y C Q => match lstW C x, lstW C y with
  | some xs, some ys => xs.length + ys.length ≤ 16777216 ∧ newL (xs ++ ys) C Q
  | _, _ => False
theorem prd_app2 {α β : Type} {R : α → β → Prop} {xs us : List α} {ys vs : List β} (h : Paired R xs ys) (k : Paired R us vs) : Paired R (xs ++ us) (ys ++ vs) := by
  induction h with
  | nil => exact k
  | cons r t ih => exact .cons r ih
instance : Low2 K (rCatL K) dCat := ⟨fun x y C ad v u H Qd Q hR rx ry h k => by
  unfold dCat at h
  split at h
  · rename_i xs ys e1 e2
    obtain ⟨a, vs, rfl, h1, r1, _⟩ := lst_of hR rx e1
    obtain ⟨b, us, rfl, h2, r2, _⟩ := lst_of hR ry e2
    exact ⟨a, b, vs, us, rfl, rfl, h1, h2, by rw [prd_len r1, prd_len r2, line_is]; exact h.1, newL_run hR (prd_app2 r1 r2) h.2 k⟩
  · exact h.elim⟩
def dRep : RD2 := fun x y C Q => match x, y with
  | .o i, .d (.int k) => match C[i]? with
    | some (.lst ws) => (-(2 ^ 63) ≤ k ∧ k < 2 ^ 63 ∧ ws.length * k.toNat ≤ 16777216) ∧ newL (List.replicate k.toNat ws).flatten C Q
    | _ => False
  | _, _ => False
theorem prd_rep {α β : Type} {R : α → β → Prop} {xs : List α} {ys : List β} (h : Paired R xs ys) : ∀ n, Paired R (List.replicate n xs).flatten (List.replicate n ys).flatten
  | 0 => .nil
  | n + 1 => by rw [List.replicate_succ, List.replicate_succ, List.flatten_cons, List.flatten_cons]; exact prd_app2 h (prd_rep h n)
instance : Low2 K rRep dRep := ⟨fun x y C ad v u H Qd Q hR rx ry h k => by
  unfold dRep at h
  split at h
  · rename_i i n
    split at h
    · rename_i ws hc
      obtain ⟨a, vs, rfl, h1, r1, _⟩ := own_of hR rx hc
      exact ⟨a, n, vs, rfl, int_at ry, h1, h.1.1, h.1.2.1, by rw [prd_len r1, line_is]; exact h.1.2.2, newL_run hR (prd_rep r1 n.toNat) h.2 k⟩
    · exact h.elim
  · exact h.elim⟩
def isL (C : Cs) (w : W) : Bool := (lstW C w).isSome
/-- a list's method -/
def dML (r : W → List W → Cs → (W → Cs → Prop) → Prop) (o : TD) (a : TDA) : TD := fun ρ C Q => o ρ C fun x C1 => isL C1 x = true ∧ a ρ C1 fun ws C2 => r x ws C2 Q
def dML0 (r : W → List W → Cs → (W → Cs → Prop) → Prop) (o : TD) : TD := fun ρ C Q => o ρ C fun x C1 => isL C1 x = true ∧ r x [] C1 Q
theorem isL_ty {ad : List Addr} {C : Cs} {H : Hp} {v : V} {w : W} (hR : HeapR K ad C H) (r : RepW K (low ad C H) ad v w) (h : isL C w = true) : tyV K "list" v H := by
  unfold isL at h
  obtain ⟨ws, e⟩ := Option.isSome_iff_exists.mp h
  obtain ⟨a, vs, rfl, h1, _⟩ := lst_of hR r e
  exact .inl ⟨rfl, vs, h1⟩
instance {r : V → List V → Hp → VK → Prop} {rd : W → List W → Cs → (W → Cs → Prop) → Prop} {t : TE} {ta : TA} {d : TD} {da : TDA} [l : LowM K r rd] [o : SimE K t d] [a : SimA K ta da] : SimE K (tBM K "list" r t ta) (dML rd d da) := ⟨fun ρ C ad σ H Qd Q hR sR h k =>
  o.run ρ C ad σ H _ _ hR sR h fun x C1 v H1 ad1 q1 hR1 g1 r1 => ⟨isL_ty hR1 r1 q1.1, a.run ρ C1 ad1 σ H1 _ _ hR1 (sR.grw g1) q1.2 fun ws C2 vs H2 ad2 q2 hR2 g2 r2 => l.run x ws C2 ad2 v vs H2 _ _ hR2 (r1.grw g2) r2 q2 (k.grw (g1.trans g2))⟩⟩
instance {r : V → List V → Hp → VK → Prop} {rd : W → List W → Cs → (W → Cs → Prop) → Prop} {t : TE} {d : TD} [l : LowM K r rd] [o : SimE K t d] : SimE K (tBM0 K "list" r t) (dML0 rd d) := ⟨fun ρ C ad σ H Qd Q hR sR h k =>
  o.run ρ C ad σ H _ _ hR sR h fun x C1 v H1 ad1 q1 hR1 g1 r1 => ⟨isL_ty hR1 r1 q1.1, l.run x [] C1 ad1 v [] H1 _ _ hR1 r1 .nil q1.2 (k.grw g1)⟩⟩
theorem set_own {ad : List Addr} {C : Cs} {H : Hp} {i : Nat} {a : Addr} {ws ws' : List W} {vs' : List V} (hR : HeapR K ad C H) (ha : ad[i]? = some a) (hc : C[i]? = some (.lst ws)) (r : RepWs K (low ad C H) ad vs' ws') : HeapR K ad (C.set i (.lst ws')) (upd H a (.lst vs')) ∧ Grw ad C H ad (C.set i (.lst ws')) (upd H a (.lst vs')) :=
  hR.set ha hc (fun z => by cases z) (fun z => by cases z) ⟨vs', upd_same, r⟩
def dApp : W → List W → Cs → (W → Cs → Prop) → Prop := fun x ws C Q => match x, ws with
  | .o i, [y] => match C[i]? with
    | some (.lst xs) => xs.length < 16777216 ∧ Q (.d .non) (C.set i (.lst (xs ++ [y])))
    | _ => False
  | _, _ => False
instance : LowM K rAppend dApp := ⟨fun x ws C ad v vs H Qd Q hR rx r h k => by
  unfold dApp at h
  split at h
  · rename_i i y
    split at h
    · rename_i xs hc
      obtain ⟨a, us, rfl, h1, r1, ha⟩ := own_of hR rx hc
      cases r with
      | cons ry rr =>
        cases rr
        obtain ⟨hR2, g2⟩ := set_own hR ha hc (prd_snoc r1 ry)
        exact ⟨a, us, _, rfl, rfl, h1, by rw [prd_len r1, line_is]; exact h.1, k _ _ _ _ ad h.2 hR2 g2 rw_non⟩
    · exact h.elim
  · exact h.elim⟩
def dExt : W → List W → Cs → (W → Cs → Prop) → Prop := fun x ws C Q => match x, ws with
  | .o i, [.o j] => match C[i]?, C[j]? with
    | some (.lst xs), some (.lst ys) => xs.length + ys.length ≤ 16777216 ∧ Q (.d .non) (C.set i (.lst (xs ++ ys)))
    | _, _ => False
  | _, _ => False
instance : LowM K rExtend dExt := ⟨fun x ws C ad v vs H Qd Q hR rx r h k => by
  unfold dExt at h
  split at h
  · rename_i i j
    split at h
    · rename_i xs ys hc hc2
      obtain ⟨a, us, rfl, h1, r1, ha⟩ := own_of hR rx hc
      cases r with
      | cons ry rr =>
        cases rr
        obtain ⟨b, zs, rfl, h2, r2, hb⟩ := own_of hR ry hc2
        obtain ⟨hR2, g2⟩ := set_own hR ha hc (prd_app2 r1 r2)
        exact ⟨a, b, us, zs, rfl, rfl, h1, h2, by rw [prd_len r1, prd_len r2, line_is]; exact h.1, k _ _ _ _ ad h.2 hR2 g2 rw_non⟩
    · exact h.elim
  · exact h.elim⟩
theorem prd_rev2 {α β : Type} {R : α → β → Prop} {xs : List α} {ys : List β} (h : Paired R xs ys) : Paired R xs.reverse ys.reverse := by
  induction h with
  | nil => exact .nil
  | cons r t ih => rw [List.reverse_cons, List.reverse_cons]; exact prd_app2 ih (.cons r .nil)
theorem prd_take2 {α β : Type} {R : α → β → Prop} {xs : List α} {ys : List β} (h : Paired R xs ys) : ∀ n, Paired R (xs.take n) (ys.take n) := by
  induction h with
  | nil => intro n; rw [List.take_nil, List.take_nil]; exact .nil
  | cons r t ih =>
    intro n
    cases n with
    | zero => exact .nil
    | succ n => exact .cons r (ih n)
theorem prd_drop2 {α β : Type} {R : α → β → Prop} {xs : List α} {ys : List β} (h : Paired R xs ys) : ∀ n, Paired R (xs.drop n) (ys.drop n) := by
  induction h with
  | nil => intro n; rw [List.drop_nil, List.drop_nil]; exact .nil
  | cons r t ih =>
    intro n
    cases n with
    | zero => exact .cons r t
    | succ n => exact ih n
def dRev : W → List W → Cs → (W → Cs → Prop) → Prop := fun x ws C Q => match x, ws with
  | .o i, [] => match C[i]? with
    | some (.lst xs) => Q (.d .non) (C.set i (.lst xs.reverse))
    | _ => False
  | _, _ => False
instance : LowM K rReverse dRev := ⟨fun x ws C ad v vs H Qd Q hR rx r h k => by
  unfold dRev at h
  split at h
  · rename_i i
    split at h
    · rename_i xs hc
      obtain ⟨a, us, rfl, h1, r1, ha⟩ := own_of hR rx hc
      cases r
      obtain ⟨hR2, g2⟩ := set_own hR ha hc (prd_rev2 r1)
      exact ⟨a, us, rfl, rfl, h1, k _ _ _ _ ad h hR2 g2 rw_non⟩
    · exact h.elim
  · exact h.elim⟩
def dPop : W → List W → Cs → (W → Cs → Prop) → Prop := fun x ws C Q => match x, ws with
  | .o i, [] => match C[i]? with
    | some (.lst xs) => match xs[xs.length - 1]? with
      | some y => Q y (C.set i (.lst xs.dropLast))
      | none => False
    | _ => False
  | _, _ => False
instance : LowM K rPop dPop := ⟨fun x ws C ad v vs H Qd Q hR rx r h k => by
  unfold dPop at h
  split at h
  · rename_i i
    split at h
    · rename_i xs hc
      split at h
      · rename_i y e
        obtain ⟨a, us, rfl, h1, r1, ha⟩ := own_of hR rx hc
        cases r
        obtain ⟨z, hz, rz⟩ := prd_atR r1 e
        have rd : RepWs K (low ad C H) ad us.dropLast xs.dropLast := by
          rw [List.dropLast_eq_take, List.dropLast_eq_take, prd_len r1]
          exact prd_take2 r1 _
        obtain ⟨hR2, g2⟩ := set_own hR ha hc rd
        exact ⟨a, us, z, rfl, rfl, h1, by rw [prd_len r1]; exact hz, k _ _ _ _ ad h hR2 g2 (rz.grw g2)⟩
      · exact h.elim
    · exact h.elim
  · exact h.elim⟩
/-- list(row), tuple(row) -/
def dListOf : List W → Cs → (W → Cs → Prop) → Prop := fun ws C Q => match ws with
  | [w] => match rowW C w with
    | some xs => newL xs C Q
    | none => False
  | _ => False
theorem q_list (K : PySem.W.Frag) {X : Cx} (hK : X.K = K := by rfl) : CallR X (.type "list") (rListOf K) := by
  subst hK
  exact call_list_of
instance : LowA K (rListOf K) dListOf := ⟨fun ws C ad vs H Qd Q hR r h k => by
  unfold dListOf at h
  split at h
  · split at h
    · rename_i xs e
      cases r with
      | cons r1 r2 =>
        cases r2
        obtain ⟨a, us, rfl, hr, hx⟩ := row_of' hR r1 e
        exact ⟨a, us, rfl, hr, newL_run hR hx h k⟩
    · exact h.elim
  · exact h.elim⟩
/-- list(text) -/
def dListT : List W → Cs → (W → Cs → Prop) → Prop := fun ws C Q => match ws with
  | [.d (.str z)] => newL (z.map fun c => W.d (.str [c])) C Q
  | _ => False
def rListT : List V → Hp → VK → Prop := fun xs H Q => ∃ x : Str, xs = [.str x] ∧ x.cps.size ≤ sizeLine ∧ ∀ p, H p = none → Q (.ref p) (upd H p (.lst (x.cps.toList.map fun c => V.str (tx [c]))))
theorem q_listT {X : Cx} (hc : X.calm = true) : CallR X (.type "list") rListT := call_listS hc
instance : LowA K rListT dListT := ⟨fun ws C ad vs H Qd Q hR r h k => by
  unfold dListT at h
  split at h
  · rename_i z
    cases r with
    | cons r1 r2 =>
      cases r2
      obtain ⟨rfl, hl⟩ := str_at r1
      refine ⟨tx z, rfl, ?_, ?_⟩
      · have : (tx z).cps.size = z.length := by unfold tx; simp
        rw [this]
        exact Nat.le_trans hl (by decide)
      · rw [tx_cps]
        refine newL_run hR ?_ h k
        have : ∀ l : List Nat, RepWs K (low ad C H) ad (l.map fun c => V.str (tx [c])) (l.map fun c => W.d (.str [c])) := fun l => by
          induction l with
          | nil => exact .nil
          | cons c l ih => exact .cons (rw_str (z := [c]) (by show 1 ≤ 1000000; decide)) ih
        exact this z
  · exact h.elim⟩
def dTupOf : List W → Cs → (W → Cs → Prop) → Prop := fun ws C Q => match ws with
  | [.d (.tup ds)] => Q (.d (.tup ds)) C
  | [.d (.lst ds)] => Q (.d (.tup ds)) C
  | [.o i] => match C[i]? with
    | some (.lst xs) => newT xs C Q
    | some (.tup _) => Q (.o i) C
    | _ => False
  | _ => False
instance : LowA K (rTupOf K) dTupOf := ⟨fun ws C ad vs H Qd Q hR r h k => by
  unfold dTupOf at h
  split at h
  · rename_i ds
    cases r with
    | cons r1 r2 =>
      cases r2
      have r3 : At K _ _ (.tup ds) := r1
      unfold At at r3
      obtain ⟨a, xs, rfl, h1, h2⟩ := r3
      exact ⟨a, xs, rfl, .inr ⟨sameT (low_same _ _ _) h1, k _ C _ H ad h hR .refl r1⟩⟩
  · rename_i ds
    cases r with
    | cons r1 r2 =>
      cases r2
      obtain ⟨a, us, rfl, h1, r1, _⟩ := lst_of hR r1 (ws := ds.map W.d) rfl
      exact ⟨a, us, rfl, .inl ⟨h1, fun l nl => k _ C _ _ ad h (hR.same (same_upd nl)) (grw_same (same_upd nl)) (put_tup hR nl r1)⟩⟩
  · rename_i i
    cases r with
    | cons r1 r2 =>
      cases r2
      split at h
      · rename_i xs hc
        obtain ⟨a, us, rfl, h1, r1, _⟩ := own_of hR r1 hc
        exact ⟨a, us, rfl, .inl ⟨SqL.of h1, newT_run hR r1 h k⟩⟩
      · rename_i xs hc
        have r1' := r1
        obtain ⟨a, ha, rfl⟩ := r1
        obtain ⟨us, h1, h2⟩ := hR.rep i a _ ha hc
        exact ⟨a, us, rfl, .inr ⟨SqT.of h1, k _ C _ H ad h hR .refl r1'⟩⟩
      · exact h.elim
  · exact h.elim⟩
/-- x[a:b] of a list -/
def cutW (xs : List W) (lo hi : Option Int) : List W := (xs.drop (HT.sIx xs.length 0 lo)).take (HT.sIx xs.length xs.length hi - HT.sIx xs.length 0 lo)
def dSlL : W → Option Int → Option Int → Cs → (W → Cs → Prop) → Prop := fun x lo hi C Q => match lstW C x with
  | some xs => newL (cutW xs lo hi) C Q
  | none => False
instance : LowSl K (rSlL K) dSlL := ⟨fun x lo hi C ad v H Qd Q hR r h k => by
  unfold dSlL at h
  split at h
  · rename_i xs e
    obtain ⟨a, us, rfl, h1, r1, _⟩ := lst_of hR r e
    refine ⟨a, us, rfl, h1, newL_run hR ?_ h k⟩
    show Paired _ (cutV us lo hi) _
    unfold cutV cutW
    rw [prd_len r1]
    exact prd_take2 (prd_drop2 r1 _) _
  · exact h.elim⟩
instance {r : V → Option Int → Option Int → Hp → VK → Prop} {rd : W → Option Int → Option Int → Cs → (W → Cs → Prop) → Prop} {t : TE} {tl th : TO} {d : TD} {dl dh : TDO} [l : LowSl K r rd] [a : SimE K t d] [b : SimO K tl dl] [c : SimO K th dh] : SimE K (L2.tSl r t tl th) (dSl rd d dl dh) := ⟨fun ρ C ad σ H Qd Q hR sR h k =>
  a.run ρ C ad σ H _ _ hR sR h fun x C1 v H1 ad1 q1 hR1 g1 r1 => b.run ρ C1 ad1 σ H1 _ _ hR1 (sR.grw g1) q1 fun i C2 H2 ad2 q2 hR2 g2 => c.run ρ C2 ad2 σ H2 _ _ hR2 (sR.grw (g1.trans g2)) q2 fun j C3 H3 ad3 q3 hR3 g3 =>
    l.run x i j C3 ad3 v H3 _ _ hR3 (r1.grw (g2.trans g3)) q3 (k.grw ((g1.trans g2).trans g3))⟩
/-- x[a:b] of a text -/
def dSlS : W → Option Int → Option Int → Cs → (W → Cs → Prop) → Prop := fun x lo hi C Q => match x with
  | .d (.str z) => Q (.d (.str ((z.drop (HT.sIx z.length 0 lo)).take (HT.sIx z.length z.length hi - HT.sIx z.length 0 lo)))) C
  | _ => False
instance : LowSl K rSlS dSlS := ⟨fun x lo hi C ad v H Qd Q hR r h k => by
  unfold dSlS at h
  split at h
  · rename_i z
    obtain ⟨rfl, hl⟩ := str_at r
    refine ⟨tx z, rfl, by rw [tx_len]; exact Nat.le_trans hl (by decide), ?_⟩
    have e : cutS (tx z) lo hi = tx ((z.drop (HT.sIx z.length 0 lo)).take (HT.sIx z.length z.length hi - HT.sIx z.length 0 lo)) := by
      unfold cutS
      rw [tx_cps, tx_len]
      rfl
    rw [e]
    refine k _ C _ H ad h hR .refl (rw_str ?_)
    rw [List.length_take, List.length_drop]
    omega
  · exact h.elim⟩
end
end BK

namespace BK
open PySem PySem.Spec PyProof.Rows L2
section
variable {X : Cx} (K : PySem.W.Frag)
theorem pi_enumRK {e : Expr} {ta : TA} {p pos tpos : Pos} {elts : List Expr} {kk : Nat} (gl : Gl X "enumerate") (mn : X.mg "enumerate" = none) (ha : PA X [e] ta) (hs : starEach [e] X.env = [(false, eval e X.env)] := by rfl) (hK : X.K = K := by rfl) :
    PI X (.Tuple elts kk tpos) (.Call (.Name "enumerate" p) [e] [] pos) (iEnumR K ta) := hK ▸ pi_enumR gl mn ha hs
theorem q_sum (hc : X.calm = true) (hK : X.K = K := by rfl) : CallR X (.builtin "sum") (rSum K) := hK ▸ cr_sum hc
theorem q_all (hc : X.calm = true) (hK : X.K = K := by rfl) : CallR X (.builtin "all") (rAll K) := hK ▸ cr_all hc
theorem q_any (hc : X.calm = true) (hK : X.K = K := by rfl) : CallR X (.builtin "any") (rAny K) := hK ▸ cr_any hc
def rMax2 : List V → Hp → VK → Prop := fun xs H Q => ∃ i j, xs = [.int i, .int j] ∧ Q (.int (if j > i then j else i)) H
def rMin2 : List V → Hp → VK → Prop := fun xs H Q => ∃ i j, xs = [.int i, .int j] ∧ Q (.int (if j < i then j else i)) H
theorem q_max2 (hc : X.calm = true) : CallR X (.builtin "max") rMax2 := call_max2 hc
theorem q_min2 (hc : X.calm = true) : CallR X (.builtin "min") rMin2 := call_min2 hc
def rInt1 : List V → Hp → VK → Prop := fun xs H Q => (∃ i, xs = [.int i] ∧ Q (.int i) H) ∨ ∃ k, xs = [.bl k] ∧ Q (.int (if k then 1 else 0)) H
theorem q_int1 : CallR X (.type "int") rInt1 := call_int1
def rStrI : List V → Hp → VK → Prop := fun xs H Q => ∃ i, xs = [.int i] ∧ i.natAbs.log2 < 1920 ∧ Q (.str (toString i)) H
theorem q_strI : CallR X (.type "str") rStrI := call_str_int
theorem q_in (hK : X.K = K := by rfl) : OpR X (compareOp .In) (rIn K false) := hK ▸ op_in_seq
theorem q_notIn (hK : X.K = K := by rfl) : OpR X (compareOp .NotIn) (rIn K true) := hK ▸ op_notIn_seq
def rDivmod : List V → Hp → VK → Prop := fun xs H Q => ∃ i j, xs = [.int i, .int j] ∧ CDiv i j ∧ ∀ p, H p = none → Q (.ref p) (upd H p (.tup [.int (i / j), .int (i % j)]))
theorem q_divmod : CallR X (.builtin "divmod") rDivmod := call_divmod
def rJoin (K : PySem.W.Frag) : V → List V → Hp → VK → Prop := fun x xs H Q => ∃ a p, ∃ ys : List Str, x = .str a ∧ xs = [.ref p] ∧ (SqL K H p (ys.map V.str) ∨ SqT K H p (ys.map V.str)) ∧ (ys.map (·.length)).sum + ys.length * a.length ≤ 16777216 ∧ Q (.str (Txt.join a ys)) H
theorem q_join (hK : X.K = K := by rfl) : MtR X "str.join" (rJoin K) := hK ▸ mt_join
def rStrip : V → List V → Hp → VK → Prop := fun x xs H Q => ∃ a b, x = .str a ∧ xs = [.str b] ∧ a.length ≤ sizeLine ∧ Q (.str (Txt.stripChars a b)) H
theorem q_strip : MtR X "str.strip" rStrip := mt_stripChars
def rCountS : V → List V → Hp → VK → Prop := fun x xs H Q => ∃ a b, x = .str a ∧ xs = [.str b] ∧ Q (.int (Txt.count a b)) H
theorem q_countS : MtR X "str.count" rCountS := mt_count
def rPart : V → List V → Hp → VK → Prop := fun x xs H Q => ∃ a b, x = .str a ∧ xs = [.str b] ∧ (b.length == 0) = false ∧ a.length ≤ sizeLine ∧ ∀ p, H p = none → Q (.ref p) (upd H p (.tup [.str (Txt.partition a b).1, .str (Txt.partition a b).2.1, .str (Txt.partition a b).2.2]))
theorem q_part : MtR X "str.partition" rPart := mt_partition
def rSplit : V → List V → Hp → VK → Prop := fun x xs H Q => ∃ a b, x = .str a ∧ xs = [.str b] ∧ (b.length == 0) = false ∧ a.length + 2 ≤ sizeLine ∧ ∀ p, H p = none → Q (.ref p) (upd H p (.lst ((Txt.split a b).map V.str)))
theorem q_split : MtR X "str.split" rSplit := mt_split
section
variable {T id : String} {name : Str} {o e : Expr} {es : List Expr} {to : TE} {t : TA} {r : V → List V → Hp → VK → Prop} {apos cpos : Pos}
theorem pe_bmK (pa : PlainAttrs T) (slot : Slot T name id) (hty : typeOf (.builtin id) = pure (.type "method_descriptor")) (hm : MtR X id r) (ho : PE X o to) (ha : PA X (e :: es) t)
    (hbase : attributeBase o name X.env (eval o X.env) = eval o X.env := by rfl)
    (hfew : ((backTo cpos (starEach (e :: es) X.env)).all (fun x => !x.1) && (backToKw cpos (keywordEach [] X.env)).all (fun x => x.1.isSome) && decide ((e :: es).length + ([] : List Keyword).length + (if ([] : List Keyword).isEmpty then 0 else 1) < 30)) = true := by rfl)
    (hline : (apos.endLine == cpos.line) = true := by rfl) (hs : starEach (e :: es) X.env = (false, eval e X.env) :: starEach es X.env := by rfl) (hplain : (backTo cpos (starEach es X.env)).any (·.1) = false := by rfl) (hK : X.K = K := by rfl) :
    PE X (.Call (.Attribute o name apos) (e :: es) [] cpos) (tBM K T r to t) := hK ▸ pe_bm pa slot hty hm ho ha hbase hfew hline hs hplain
theorem pe_bm0K (pa : PlainAttrs T) (slot : Slot T name id) (hty : typeOf (.builtin id) = pure (.type "method_descriptor")) (hm : MtR X id r) (ho : PE X o to)
    (hbase : attributeBase o name X.env (eval o X.env) = eval o X.env := by rfl) (hline : (apos.endLine == cpos.line) = true := by rfl) (hK : X.K = K := by rfl) : PE X (.Call (.Attribute o name apos) [] [] cpos) (tBM0 K T r to) := hK ▸ pe_bm0 pa slot hty hm ho hbase hline
end
end
section
variable {K : PySem.W.Frag}
def iMax (i j : Int) : Int := if j > i then j else i
def iMin (i j : Int) : Int := if j < i then j else i
def dMax2 : List W → Cs → (W → Cs → Prop) → Prop := fun ws C Q => match ws with
  | [.d (.int i), .d (.int j)] => Q (.d (.int (iMax i j))) C
  | _ => False
def dMin2 : List W → Cs → (W → Cs → Prop) → Prop := fun ws C Q => match ws with
  | [.d (.int i), .d (.int j)] => Q (.d (.int (iMin i j))) C
  | _ => False
instance : LowA K rMax2 dMax2 := ⟨fun ws C ad vs H Qd Q hR r h k => by
  unfold dMax2 at h
  split at h
  · cases r with
    | cons r1 r2 => cases r2 with
      | cons r2 r3 =>
        cases r3
        exact ⟨_, _, by rw [int_at r1, int_at r2], k _ C _ H ad h hR .refl rw_int⟩
  · exact h.elim⟩
instance : LowA K rMin2 dMin2 := ⟨fun ws C ad vs H Qd Q hR r h k => by
  unfold dMin2 at h
  split at h
  · cases r with
    | cons r1 r2 => cases r2 with
      | cons r2 r3 =>
        cases r3
        exact ⟨_, _, by rw [int_at r1, int_at r2], k _ C _ H ad h hR .refl rw_int⟩
  · exact h.elim⟩
def dDivmod : List W → Cs → (W → Cs → Prop) → Prop := fun ws C Q => match ws with
  | [.d (.int i), .d (.int j)] => CDiv i j ∧ Q (.d (.tup [.int (i / j), .int (i % j)])) C
  | _ => False
instance : LowA K rDivmod dDivmod := ⟨fun ws C ad vs H Qd Q hR r h k => by
  unfold dDivmod at h
  split at h
  · cases r with
    | cons r1 r2 => cases r2 with
      | cons r2 r3 =>
        cases r3
        refine ⟨_, _, by rw [int_at r1, int_at r2], h.1, fun p np => k _ C _ _ ad h.2 (hR.same (same_upd np)) (grw_same (same_upd np)) ?_⟩
        exact put_tup hR np (.cons rw_int (.cons rw_int .nil))
  · exact h.elim⟩
def dInt1 : List W → Cs → (W → Cs → Prop) → Prop := fun ws C Q => match ws with
  | [.d (.int i)] => Q (.d (.int i)) C
  | [.d (.bl b)] => Q (.d (.int (if b then 1 else 0))) C
  | _ => False
instance : LowA K rInt1 dInt1 := ⟨fun ws C ad vs H Qd Q hR r h k => by
  unfold dInt1 at h
  split at h
  · cases r with
    | cons r1 r2 => cases r2; exact .inl ⟨_, by rw [int_at r1], k _ C _ H ad h hR .refl rw_int⟩
  · cases r with
    | cons r1 r2 => cases r2; exact .inr ⟨_, by rw [bl_at r1], k _ C _ H ad h hR .refl rw_int⟩
  · exact h.elim⟩
/-- a whole number's figures -/
def figs (i : Int) : List Nat := cd (Str.ofString (toString i))
def dStrOf : List W → Cs → (W → Cs → Prop) → Prop := fun ws C Q => match ws with
  | [.d (.int i)] => i.natAbs < 10 ^ 47 ∧ Q (.d (.str (figs i))) C
  | _ => False
theorem figs_len {i : Int} (h : i.natAbs < 10 ^ 47) : (figs i).length ≤ 48 := by
  have := int48 h
  unfold figs cd
  exact this
theorem tx_cd (z : Str) : tx (cd z) = z := tx_of z
instance : LowA K rStrI dStrOf := ⟨fun ws C ad vs H Qd Q hR r h k => by
  unfold dStrOf at h
  split at h
  · rename_i i
    cases r with
    | cons r1 r2 =>
      cases r2
      refine ⟨i, by rw [int_at r1], int_log h.1, ?_⟩
      rw [show (toString i : Str) = tx (figs i) from (tx_cd _).symm]
      exact k _ C _ H ad h.2 hR .refl (rw_str (Nat.le_trans (figs_len h.1) (by decide)))
  · exact h.elim⟩
/-! ## sums, all, any -/
def selI : List W → Option (List Int)
  | [] => some []
  | .d (.int i) :: ws => (selI ws).map (i :: ·)
  | _ :: _ => none
def selB : List W → Option (List Bool)
  | [] => some []
  | .d (.bl i) :: ws => (selB ws).map (i :: ·)
  | _ :: _ => none
theorem selI_of : ∀ {ws : List W} {ns : List Int}, selI ws = some ns → ws = ns.map fun i => W.d (.int i)
  | [], ns, h => by cases h; rfl
  | .d (.int i) :: ws, ns, h => by
    dsimp only [selI] at h
    cases e : selI ws with
    | none => rw [e] at h; cases h
    | some es => rw [e] at h; cases h; rw [selI_of e]; rfl
  | .d .non :: _, _, h => nomatch h
  | .d (.bl _) :: _, _, h => nomatch h
  | .d (.str _) :: _, _, h => nomatch h
  | .d (.lst _) :: _, _, h => nomatch h
  | .d (.tup _) :: _, _, h => nomatch h
  | .d .dic :: _, _, h => nomatch h
  | .o _ :: _, _, h => nomatch h
theorem selB_of : ∀ {ws : List W} {ns : List Bool}, selB ws = some ns → ws = ns.map fun i => W.d (.bl i)
  | [], ns, h => by cases h; rfl
  | .d (.bl i) :: ws, ns, h => by
    dsimp only [selB] at h
    cases e : selB ws with
    | none => rw [e] at h; cases h
    | some es => rw [e] at h; cases h; rw [selB_of e]; rfl
  | .d .non :: _, _, h => nomatch h
  | .d (.int _) :: _, _, h => nomatch h
  | .d (.str _) :: _, _, h => nomatch h
  | .d (.lst _) :: _, _, h => nomatch h
  | .d (.tup _) :: _, _, h => nomatch h
  | .d .dic :: _, _, h => nomatch h
  | .o _ :: _, _, h => nomatch h
theorem selI_map (ns : List Int) : selI (ns.map fun i => W.d (.int i)) = some ns := by
  induction ns with
  | nil => rfl
  | cons n ns ih => show (selI (ns.map fun i => W.d (.int i))).map (n :: ·) = _; rw [ih]; rfl
theorem selB_map (ns : List Bool) : selB (ns.map fun i => W.d (.bl i)) = some ns := by
  induction ns with
  | nil => rfl
  | cons n ns ih => show (selB (ns.map fun i => W.d (.bl i))).map (n :: ·) = _; rw [ih]; rfl
theorem int_vs {L : Hp} {ad : List Addr} : ∀ {ns : List Int} {vs : List V}, RepWs K L ad vs (ns.map fun i => W.d (.int i)) → vs = ns.map V.int
  | [], vs, h => by cases h; rfl
  | n :: ns, vs, h => by
    cases h with
    | cons r t => rw [int_at r, int_vs t]; rfl
theorem bl_vs {L : Hp} {ad : List Addr} : ∀ {ns : List Bool} {vs : List V}, RepWs K L ad vs (ns.map fun i => W.d (.bl i)) → vs = ns.map V.bl
  | [], vs, h => by cases h; rfl
  | n :: ns, vs, h => by
    cases h with
    | cons r t => rw [bl_at r, bl_vs t]; rfl
def one : List W → Option W
  | [w] => some w
  | _ => none
def dFold {α : Type} (sel : List W → Option (List α)) (f : List α → Dt) : List W → Cs → (W → Cs → Prop) → Prop := fun ws C Q => match ws with
  | [w] => match lstW C w with
    | some xs => match sel xs with
      | some ns => Q (.d (f ns)) C
      | none => False
    | none => False
  | _ => False
instance : LowA K (rSum K) (dFold selI fun ns => .int ns.sum) := ⟨fun ws C ad vs H Qd Q hR r h k => by
  unfold dFold at h
  split at h
  · split at h
    · rename_i xs e
      split at h
      · rename_i ns e2
        cases r with
        | cons r1 r2 =>
          cases r2
          obtain ⟨a, us, rfl, h1, r1, _⟩ := lst_of hR r1 e
          rw [selI_of e2] at r1
          rw [int_vs r1] at h1
          exact ⟨a, ns, rfl, h1, k _ C _ H ad h hR .refl rw_int⟩
      · exact h.elim
    · exact h.elim
  · exact h.elim⟩
instance : LowA K (rAll K) (dFold selB fun ns => .bl (ns.all id)) := ⟨fun ws C ad vs H Qd Q hR r h k => by
  unfold dFold at h
  split at h
  · split at h
    · rename_i xs e
      split at h
      · rename_i ns e2
        cases r with
        | cons r1 r2 =>
          cases r2
          obtain ⟨a, us, rfl, h1, r1, _⟩ := lst_of hR r1 e
          rw [selB_of e2] at r1
          rw [bl_vs r1] at h1
          exact ⟨a, ns, rfl, h1, k _ C _ H ad h hR .refl rw_bl⟩
      · exact h.elim
    · exact h.elim
  · exact h.elim⟩
instance : LowA K (rAny K) (dFold selB fun ns => .bl (ns.any id)) := ⟨fun ws C ad vs H Qd Q hR r h k => by
  unfold dFold at h
  split at h
  · split at h
    · rename_i xs e
      split at h
      · rename_i ns e2
        cases r with
        | cons r1 r2 =>
          cases r2
          obtain ⟨a, us, rfl, h1, r1, _⟩ := lst_of hR r1 e
          rw [selB_of e2] at r1
          rw [bl_vs r1] at h1
          exact ⟨a, ns, rfl, h1, k _ C _ H ad h hR .refl rw_bl⟩
      · exact h.elim
    · exact h.elim
  · exact h.elim⟩
/-! ## x in row, of flat things -/
def toV : Dt → Option V
  | .non => some .non
  | .bl b => some (.bl b)
  | .int i => some (.int i)
  | .str z => some (.str (tx z))
  | _ => none
def toVs : List W → Option (List V)
  | [] => some []
  | .d x :: ws => match toV x, toVs ws with
    | some v, some vs => some (v :: vs)
    | _, _ => none
  | .o _ :: _ => none
theorem toV_at {L : Hp} {ad : List Addr} {v u : V} {x : Dt} (r : RepW K L ad v (.d x)) (h : toV x = some u) : v = u ∧ flatV u = true := by
  cases x with
  | non => cases h; exact ⟨non_at r, rfl⟩
  | bl b => cases h; exact ⟨bl_at r, rfl⟩
  | int i => cases h; exact ⟨int_at r, rfl⟩
  | str z => cases h; exact ⟨(str_at r).1, rfl⟩
  | _ => cases h
theorem toVs_at {L : Hp} {ad : List Addr} : ∀ {ws : List W} {vs us : List V}, RepWs K L ad vs ws → toVs ws = some us → vs = us ∧ us.all flatV = true
  | [], vs, us, r, h => by cases h; cases r; exact ⟨rfl, rfl⟩
  | .d x :: ws, vs, us, r, h => by
    dsimp only [toVs] at h
    split at h
    · rename_i v vs' e1 e2
      cases h
      cases r with
      | cons r1 r2 =>
        obtain ⟨h1, h2⟩ := toV_at r1 e1
        obtain ⟨h3, h4⟩ := toVs_at r2 e2
        exact ⟨by rw [h1, h3], by rw [List.all_cons, h2, h4]; rfl⟩
    · cases h
  | .o _ :: _, _, _, _, h => nomatch h
def dIn (neg : Bool) : RD2 := fun x y C Q => match x, rowW C y with
  | .d a, some ws => match toV a, toVs ws with
    | some v, some vs => Q (.d (.bl (if neg then !inV v vs else inV v vs))) C
    | _, _ => False
  | _, _ => False
instance {neg : Bool} : Low2 K (rIn K neg) (dIn neg) := ⟨fun x y C ad v u H Qd Q hR rx ry h k => by
  unfold dIn at h
  split at h
  · rename_i a ws e
    split at h
    · rename_i z vs e1 e2
      obtain ⟨p, xs, rfl, hr, hx⟩ := row_of' hR ry e
      obtain ⟨h1, h2⟩ := toV_at rx e1
      obtain ⟨h3, h4⟩ := toVs_at hx e2
      subst h1 h3
      exact ⟨p, xs, rfl, hr, h2, h4, k _ C _ H ad h hR .refl rw_bl⟩
    · exact h.elim
  · exact h.elim⟩
/-! ## methods of texts -/
def isT : W → Bool
  | .d (.str _) => true
  | _ => false
theorem isT_at {L : Hp} {ad : List Addr} {v : V} {w : W} (r : RepW K L ad v w) (h : isT w = true) : ∃ a, v = .str a := by
  unfold isT at h
  split at h
  · exact ⟨_, (str_at r).1⟩
  · cases h
def dM1 (r : W → List W → Cs → (W → Cs → Prop) → Prop) (o e : TD) : TD := fun ρ C Q => o ρ C fun x C1 => isT x = true ∧ e ρ C1 fun y C2 => r x [y] C2 Q
instance {r : V → List V → Hp → VK → Prop} {rd : W → List W → Cs → (W → Cs → Prop) → Prop} {t u : TE} {d e : TD} [l : LowM K r rd] [o : SimE K t d] [a : SimE K u e] : SimE K (tM1 r t u) (dM1 rd d e) := ⟨fun ρ C ad σ H Qd Q hR sR h k =>
  o.run ρ C ad σ H _ _ hR sR h fun x C1 v H1 ad1 q1 hR1 g1 r1 => ⟨isT_at r1 q1.1, a.run ρ C1 ad1 σ H1 _ _ hR1 (sR.grw g1) q1.2 fun y C2 u H2 ad2 q2 hR2 g2 r2 => l.run x [y] C2 ad2 v [u] H2 _ _ hR2 (r1.grw g2) (.cons r2 .nil) q2 (k.grw (g1.trans g2))⟩⟩
def selT : List W → Option (List (List Nat))
  | [] => some []
  | .d (.str z) :: ws => (selT ws).map (z :: ·)
  | _ :: _ => none
theorem selT_of : ∀ {ws : List W} {ns : List (List Nat)}, selT ws = some ns → ws = ns.map fun i => W.d (.str i)
  | [], ns, h => by cases h; rfl
  | .d (.str i) :: ws, ns, h => by
    dsimp only [selT] at h
    cases e : selT ws with
    | none => rw [e] at h; cases h
    | some es => rw [e] at h; cases h; rw [selT_of e]; rfl
  | .d .non :: _, _, h => nomatch h
  | .d (.bl _) :: _, _, h => nomatch h
  | .d (.int _) :: _, _, h => nomatch h
  | .d (.lst _) :: _, _, h => nomatch h
  | .d (.tup _) :: _, _, h => nomatch h
  | .d .dic :: _, _, h => nomatch h
  | .o _ :: _, _, h => nomatch h
theorem selT_map (ns : List (List Nat)) : selT (ns.map fun i => W.d (.str i)) = some ns := by
  induction ns with
  | nil => rfl
  | cons n ns ih => show (selT (ns.map fun i => W.d (.str i))).map (n :: ·) = _; rw [ih]; rfl
theorem txt_vs {L : Hp} {ad : List Addr} : ∀ {ns : List (List Nat)} {vs : List V}, RepWs K L ad vs (ns.map fun i => W.d (.str i)) → vs = (ns.map tx).map V.str
  | [], vs, h => by cases h; rfl
  | n :: ns, vs, h => by
    cases h with
    | cons r t => rw [(str_at r).1, txt_vs t]; rfl
/-- texts joined with a text between -/
def glue (a : List Nat) : List (List Nat) → List Nat
  | [] => []
  | [x] => x
  | x :: y :: r => x ++ a ++ glue a (y :: r)
end
end BK
namespace BK
open PySem PySem.Spec PyProof.Rows L2
theorem pe_cL {X : Cx} {e : Expr} {x : Str} (h : PE X e (tC (.str x))) (hl : x.length ≤ 1000000 := by decide +kernel) : PE X e (tStrL x) := ⟨fun pins s σ H Q I q => h.run pins s σ H Q I (q hl)⟩
end BK

namespace BK
open PySem PySem.Spec PyProof.Rows L2
/-! ## places that are written -/
theorem atI_0 {α : Type} {x : α} {xs : List α} : atI (x :: xs) 0 = some x := at_ofA (j := 0) rfl rfl
theorem atI_1 {α : Type} {x y : α} {xs : List α} : atI (x :: y :: xs) 1 = some y := at_ofA (j := 1) rfl rfl
theorem atI_2 {α : Type} {x y z : α} {xs : List α} : atI (x :: y :: z :: xs) 2 = some z := at_ofA (j := 2) rfl rfl
theorem atI_3 {α : Type} {x y z u : α} {xs : List α} : atI (x :: y :: z :: u :: xs) 3 = some u := at_ofA (j := 3) rfl rfl
theorem atI_4 {α : Type} {x y z u v : α} {xs : List α} : atI (x :: y :: z :: u :: v :: xs) 4 = some v := at_ofA (j := 4) rfl rfl
def setI {α : Type} (xs : List α) (z : Int) (w : α) : Option (List α) := (ixN xs.length z).map fun j => xs.set j w
theorem ixN_nat {n j : Nat} (h : j < n) : ixN n (j : Int) = some j := by
  unfold ixN
  rw [if_pos (by omega), if_pos (by omega)]
  simp
theorem setI_0 {α : Type} {x w : α} {xs : List α} : setI (x :: xs) 0 w = some (w :: xs) := by
  unfold setI
  rw [show (0 : Int) = ((0 : Nat) : Int) from rfl, ixN_nat (by simp)]
  rfl
theorem setI_1 {α : Type} {x y w : α} {xs : List α} : setI (x :: y :: xs) 1 w = some (x :: w :: xs) := by
  unfold setI
  rw [show (1 : Int) = ((1 : Nat) : Int) from rfl, ixN_nat (by simp)]
  rfl
theorem setI_2 {α : Type} {x y z w : α} {xs : List α} : setI (x :: y :: z :: xs) 2 w = some (x :: y :: w :: xs) := by
  unfold setI
  rw [show (2 : Int) = ((2 : Nat) : Int) from rfl, ixN_nat (by simp)]
  rfl
theorem setI_3 {α : Type} {x y z u w : α} {xs : List α} : setI (x :: y :: z :: u :: xs) 3 w = some (x :: y :: z :: w :: xs) := by
  unfold setI
  rw [show (3 : Int) = ((3 : Nat) : Int) from rfl, ixN_nat (by simp)]
  rfl
section
variable {K : PySem.W.Frag}
def dgSub (o i : TD) : TDG := fun w ρ C Q => o ρ C fun x C1 => i ρ C1 fun y C2 => match x, y with
  | .o k, .d (.int z) => match C2[k]? with
    | some (.lst xs) => match setI xs z w with
      | some ys => Q ρ (C2.set k (.lst ys))
      | none => False
    | _ => False
  | _, _ => False
theorem prd_set {α β : Type} {R : α → β → Prop} {xs : List α} {ys : List β} (h : Paired R xs ys) {x : α} {y : β} (r : R x y) : ∀ j, Paired R (xs.set j x) (ys.set j y) := by
  induction h with
  | nil => intro j; exact .nil
  | cons r0 t ih =>
    intro j
    cases j with
    | zero => exact .cons r t
    | succ j => exact .cons r0 (ih j)
instance {to ti : TE} {d e : TD} [a : SimE K to d] [b : SimE K ti e] : SimG K (gSub to ti rSetL) (dgSub d e) := ⟨fun v w ρ C ad σ H Qd Q hR sR r h k => a.run ρ C ad σ H _ _ hR sR h fun x C1 o H1 ad1 q1 hR1 g1 r1 => b.run ρ C1 ad1 σ H1 _ _ hR1 (sR.grw g1) q1 fun y C2 i H2 ad2 q2 hR2 g2 r2 => by
  split at q2
  · rename_i j z
    split at q2
    · rename_i xs hc
      split at q2
      · rename_i ys e1
        obtain ⟨p, us, rfl, h1, rv, hp⟩ := own_of hR2 (r1.grw g2) hc
        unfold setI at e1
        cases e2 : ixN xs.length z with
        | none => rw [e2] at e1; cases e1
        | some n =>
          rw [e2] at e1
          cases e1
          have g12 := g1.trans g2
          obtain ⟨hR3, g3⟩ := set_own hR2 hp hc (prd_set rv (r.grw g12) n)
          exact ⟨p, us, z, n, rfl, int_at r2, h1, by rw [prd_len rv]; exact e2, k _ _ _ _ ad2 q2 hR3 (g12.trans g3) (sR.grw (g12.trans g3))⟩
      · exact q2.elim
    · exact q2.elim
  · exact q2.elim⟩
/-- del x[a:] -/
def dDel (o : TD) (l : TDO) : TDS := fun D ρ C => o ρ C fun x C1 => l ρ C1 fun lo C2 => match x with
  | .o k => match C2[k]? with
    | some (.lst xs) => D.nx ρ (C2.set k (.lst (xs.take (HT.sIx xs.length 0 lo))))
    | _ => False
  | _ => False
instance {to : TE} {tl : TO} {d : TD} {e : TDO} [a : SimE K to d] [b : SimO K tl e] : SimS K (tDelS to tl) (dDel d e) := ⟨fun ρ C ad σ H DD D hR sR h k => a.run ρ C ad σ H _ _ hR sR h fun x C1 v H1 ad1 q1 hR1 g1 r1 => b.run ρ C1 ad1 σ H1 _ _ hR1 (sR.grw g1) q1 fun lo C2 H2 ad2 q2 hR2 g2 => by
  split at q2
  · rename_i j
    split at q2
    · rename_i xs hc
      obtain ⟨p, us, rfl, h1, rv, hp⟩ := own_of hR2 (r1.grw g2) hc
      have g12 := g1.trans g2
      obtain ⟨hR3, g3⟩ := set_own hR2 hp hc (prd_take2 rv (HT.sIx xs.length 0 lo))
      exact ⟨p, us, rfl, h1, by rw [prd_len rv]; exact k.nx _ _ _ _ ad2 q2 hR3 (g12.trans g3) (sR.grw (g12.trans g3))⟩
    · exact q2.elim
  · exact q2.elim⟩
end
theorem set_at {C : Cs} {b : Nat} {c x : Cell} (h : C[b]? = some c) : (C.set b x)[b]? = some x := by
  rw [getE_set, if_pos rfl, if_pos (List.getElem?_eq_some_iff.mp h).1]
theorem set_off {C : Cs} {b j : Nat} {x : Cell} (h : b ≠ j) : (C.set b x)[j]? = C[j]? := by rw [getE_set, if_neg h]
theorem app_at {C : Cs} {j : Nat} {c : Cell} {ex : Cs} (h : C[j]? = some c) : (C ++ ex)[j]? = some c := by
  rw [List.getElem?_append_left (List.getElem?_eq_some_iff.mp h).1]
  exact h
theorem last_at {C : Cs} {c : Cell} : (C ++ [c])[C.length]? = some c := List.getElem?_concat_length
theorem lt_at {C : Cs} {j : Nat} {c : Cell} (h : C[j]? = some c) : j < C.length := (List.getElem?_eq_some_iff.mp h).1
/-! ## cells but one stay -/
/-- all cells but b are as they were -/
structure But (b : Nat) (C C' : Cs) : Prop where
  keep : ∀ (j : Nat) c, j ≠ b → C[j]? = some c → C'[j]? = some c
  len : C.length ≤ C'.length
theorem But.refl {b : Nat} {C : Cs} : But b C C := ⟨fun _ _ _ h => h, Nat.le_refl _⟩
theorem But.trans {b : Nat} {C C1 C2 : Cs} (a : But b C C1) (c : But b C1 C2) : But b C C2 := ⟨fun j x n h => c.keep j x n (a.keep j x n h), Nat.le_trans a.len c.len⟩
theorem But.set {b : Nat} {C C' : Cs} (h : But b C C') (x : Cell) : But b C (C'.set b x) := ⟨fun j c n hj => by rw [set_off (Ne.symm n)]; exact h.keep j c n hj, by rw [List.length_set]; exact h.len⟩
theorem But.new {b : Nat} {C C' : Cs} (h : But b C C') (ex : Cs) : But b C (C' ++ ex) := ⟨fun j c n hj => app_at (h.keep j c n hj), by rw [List.length_append]; have := h.len; omega⟩
theorem But.mut {b : Nat} {C C' : Cs} (h : But b C C') {j : Nat} (hj : C.length ≤ j) (x : Cell) : But b C (C'.set j x) := ⟨fun i c n hi => by rw [set_off (by have := lt_at hi; omega)]; exact h.keep i c n hi, by rw [List.length_set]; exact h.len⟩
theorem But.kp {b : Nat} {C C' : Cs} (h : But b C C') {x : Cell} (hb : C'[b]? = some x) (hx : Clo C.length x) : Kp C (C'.take C.length) := by
  refine ⟨by rw [List.length_take]; have := h.len; omega, fun i c hi => ?_⟩
  have lt := lt_at hi
  rw [List.length_take] at lt
  rw [List.getElem?_take_of_lt (by omega)] at hi
  by_cases e : i = b
  · subst e
    rw [hb] at hi
    cases hi
    exact .inr hx
  · left
    have lt2 : i < C.length := by omega
    have e1 := h.keep i _ e (List.getElem?_eq_getElem lt2)
    rw [hi] at e1
    cases e1
    exact List.getElem?_eq_getElem lt2
theorem take_at {C : Cs} {n j : Nat} (h : j < n) : (C.take n)[j]? = C[j]? := List.getElem?_take_of_lt h
theorem But.take {b : Nat} {C C' : Cs} (h : But b C C') : But b C (C'.take C.length) := ⟨fun j c n hj => by rw [take_at (lt_at hj)]; exact h.keep j c n hj, by rw [List.length_take]; have := h.len; omega⟩
theorem ret.but {b : Nat} {C C' : Cs} {x : Dt} {c : Cell} {Q : W → Cs → Prop} (h : But b C C') (hb : C'[b]? = some c) (hx : Clo C.length c) (q : Q (.d x) (C'.take C.length)) : ret C Q (.d x) C' :=
  .inr (.inl ⟨x, C'.take C.length, C'.drop C.length, rfl, (List.take_append_drop _ _).symm, h.kp hb hx, q⟩)
theorem ret.butL {b j : Nat} {C C' : Cs} {ds : List Dt} {c : Cell} {Q : W → Cs → Prop} (h : But b C C') (hb : C'[b]? = some c) (hx : Clo C.length c) (hj : C.length ≤ j) (hc : C'[j]? = some (.lst (ds.map W.d))) (q : Q (.d (.lst ds)) (C'.take C.length)) : ret C Q (.o j) C' :=
  .inr (.inr ⟨j, _, ds, C'.take C.length, C'.drop C.length, rfl, hc, allD_map ds, hj, (List.take_append_drop _ _).symm, h.kp hb hx, .inl q⟩)
theorem ret.butO {b j : Nat} {C C' : Cs} {ds : List Dt} {c : Cell} {Q : W → Cs → Prop} (h : But b C C') (hb : C'[b]? = some c) (hx : Clo C.length c) (hj : C.length ≤ j) (hc : C'[j]? = some (.lst (ds.map W.d))) (q : Q (.o C.length) (C'.take C.length ++ [.lst (ds.map W.d)])) : ret C Q (.o j) C' :=
  .inr (.inr ⟨j, _, ds, C'.take C.length, C'.drop C.length, rfl, hc, allD_map ds, hj, (List.take_append_drop _ _).symm, h.kp hb hx, .inr q⟩)
end BK

namespace BK
open PySem PySem.Spec PyProof.Rows L2
section
variable {K : PySem.W.Frag}
/-! ## parts of texts are no longer -/
theorem spl_len {S : List Nat} : ∀ (l : List Nat) (k : Nat) (acc : List Nat), ∀ z ∈ TL.spl S k acc l, z.length ≤ acc.length + l.length
  | [], k, acc, z, h => by
    rw [TL.spl_nil] at h
    rw [List.mem_singleton.mp h]
    simp
  | c :: r, 0, acc, z, h => by
    cases e : TL.pre S (c :: r) with
    | true =>
      rw [TL.spl_hit e] at h
      rcases List.mem_cons.mp h with rfl | h
      · simp
      · have := spl_len r _ [] z h
        simp at this ⊢
        omega
    | false =>
      rw [TL.spl_miss e] at h
      have := spl_len r 0 _ z h
      simp at this ⊢
      omega
  | c :: r, k + 1, acc, z, h => by
    have := spl_len r k acc z h
    simp at this ⊢
    omega
theorem par_len {S : List Nat} : ∀ (l acc : List Nat) {x y : List Nat}, TL.par S acc l = some (x, y) → x.length ≤ acc.length + l.length ∧ y.length ≤ l.length
  | [], acc, x, y, h => by cases h
  | c :: r, acc, x, y, h => by
    cases e : TL.pre S (c :: r) with
    | true =>
      rw [TL.par_hit e] at h
      cases h
      exact ⟨by simp, by rw [List.length_drop]; omega⟩
    | false =>
      rw [TL.par_miss e] at h
      have := par_len r _ h
      simp at this ⊢
      omega
/-! ## texts joined, cut, split -/
theorem joinL_nil : ∀ zs : List (List Nat), TL.joinL [] zs = zs.flatten
  | [] => rfl
  | [p] => by simp [TL.joinL]
  | p :: q :: r => by
    show p ++ ([] ++ TL.joinL [] (q :: r)) = _
    rw [joinL_nil (q :: r), List.nil_append, List.flatten_cons, List.flatten_cons, List.flatten_cons]
theorem join_txs (a : List Nat) (zs : List (List Nat)) : Txt.join (tx a) (zs.map tx) = tx (TL.joinL a zs) := by
  refine TL.ext_tl ?_
  rw [TL.join_eq, TL.tl_join, List.map_map]
  have e : (TL.tl ∘ tx) = id := funext fun z => tx_cps z
  rw [e, List.map_id, show TL.tl (tx a) = a from tx_cps a, show TL.tl (tx (TL.joinL a zs)) = _ from tx_cps _]
def dJoin : W → List W → Cs → (W → Cs → Prop) → Prop := fun x ws C Q => match x, ws with
  | .d (.str a), [w] => match rowW C w with
    | some xs => match selT xs with
      | some zs => (zs.map (·.length)).sum + zs.length * a.length ≤ 16777216 ∧ (TL.joinL a zs).length ≤ 1000000 ∧ Q (.d (.str (TL.joinL a zs))) C
      | none => False
    | none => False
  | _, _ => False
instance : LowM K (rJoin K) dJoin := ⟨fun x ws C ad v vs H Qd Q hR rx r h k => by
  unfold dJoin at h
  split at h
  · rename_i a w
    split at h
    · rename_i xs e
      split at h
      · rename_i zs e2
        obtain ⟨rfl, _⟩ := str_at rx
        cases r with
        | cons r1 r2 =>
          cases r2
          obtain ⟨p, us, rfl, hr, hx⟩ := row_of' hR r1 e
          rw [selT_of e2] at hx
          rw [txt_vs hx] at hr
          refine ⟨tx a, p, zs.map tx, rfl, rfl, hr, ?_, ?_⟩
          · rw [List.map_map, List.length_map, tx_len, show (Str.length ∘ tx) = List.length from funext tx_len]
            exact h.1
          · rw [join_txs]
            exact k _ C _ H ad h.2.2 hR .refl (rw_str h.2.1)
      · exact h.elim
    · exact h.elim
  · exact h.elim⟩
def partW (b a : List Nat) : Dt := match TL.par b [] a with
  | some (l, r) => .tup [.str l, .str b, .str r]
  | none => .tup [.str a, .str [], .str []]
def dPartn : W → List W → Cs → (W → Cs → Prop) → Prop := fun x ws C Q => match x, ws with
  | .d (.str a), [.d (.str b)] => b ≠ [] ∧ Q (.d (partW b a)) C
  | _, _ => False
instance : LowM K rPart dPartn := ⟨fun x ws C ad v vs H Qd Q hR rx r h k => by
  unfold dPartn at h
  split at h
  · rename_i a b
    obtain ⟨hb0, h⟩ := h
    obtain ⟨rfl, la⟩ := str_at rx
    cases r with
    | cons r1 r2 =>
      cases r2
      obtain ⟨rfl, lb⟩ := str_at r1
      have hb : TL.tl (tx b) ≠ [] := by rw [show TL.tl (tx b) = b from tx_cps _]; exact hb0
      have e := TL.partition_par (tx a) (tx b) hb
      rw [show TL.tl (tx b) = b from tx_cps _, show TL.tl (tx a) = a from tx_cps _] at e
      refine ⟨tx a, tx b, rfl, rfl, ?_, by rw [tx_len]; exact Nat.le_trans la (by decide), fun p np => ?_⟩
      · rw [tx_len]
        cases b with
        | nil => exact absurd rfl hb0
        | cons _ _ => rfl
      · refine k _ C _ _ ad h (hR.same (same_upd np)) (grw_same (same_upd np)) ?_
        unfold partW
        cases e2 : TL.par b [] a with
        | some lr =>
          obtain ⟨l, r⟩ := lr
          rw [e2] at e
          rw [e]
          have pl := par_len a [] e2
          exact put_tup hR np (.cons (rw_str (by simp at pl; omega)) (.cons (rw_str lb) (.cons (rw_str (by omega)) .nil)))
        | none =>
          rw [e2] at e
          rw [e]
          exact put_tup hR np (.cons (rw_str la) (.cons (rw_str (z := []) (by simp)) (.cons (rw_str (z := []) (by simp)) .nil)))
  · exact h.elim⟩
def dSplit : W → List W → Cs → (W → Cs → Prop) → Prop := fun x ws C Q => match x, ws with
  | .d (.str a), [.d (.str b)] => (b ≠ [] ∧ ∀ c ∈ b, c < 256) ∧ newL ((TL.spl b 0 [] a).map fun z => W.d (.str z)) C Q
  | _, _ => False
theorem strs_rep {L : Hp} {ad : List Addr} : ∀ {zs : List (List Nat)}, (∀ z ∈ zs, z.length ≤ 1000000) → RepWs K L ad ((zs.map tx).map V.str) (zs.map fun z => W.d (.str z))
  | [], _ => .nil
  | z :: zs, h => .cons (rw_str (h z (List.mem_cons_self ..))) (strs_rep fun y hy => h y (List.mem_cons_of_mem _ hy))
instance : LowM K rSplit dSplit := ⟨fun x ws C ad v vs H Qd Q hR rx r h k => by
  unfold dSplit at h
  split at h
  · rename_i a b
    obtain ⟨⟨hb, hk⟩, h⟩ := h
    obtain ⟨rfl, la⟩ := str_at rx
    have hz : ∀ z ∈ TL.spl b 0 [] a, z.length ≤ 1000000 := fun z m => by have := spl_len a 0 [] z m; simp at this; omega
    cases r with
    | cons r1 r2 =>
      cases r2
      obtain ⟨rfl, lb⟩ := str_at r1
      have e := TL.split_spl (tx a) (tx b) (by rw [show TL.tl (tx b) = b from tx_cps _]; exact hb) (TL.kind_ok (by
        unfold tx
        rw [List.all_toArray]
        exact List.all_eq_true.mpr fun c hc => decide_eq_true (hk c hc)))
      rw [show TL.tl (tx b) = b from tx_cps _, show TL.tl (tx a) = a from tx_cps _] at e
      have e2 : Txt.split (tx a) (tx b) = (TL.spl b 0 [] a).map tx := TL.map_tl_inj (by
        rw [e, List.map_map, show (TL.tl ∘ tx) = id from funext fun z => tx_cps z, List.map_id])
      refine ⟨tx a, tx b, rfl, rfl, ?_, by rw [tx_len]; exact Nat.le_trans (Nat.add_le_add_right la 2) (by decide), fun p np => ?_⟩
      · rw [tx_len]
        cases b with
        | nil => exact absurd rfl hb
        | cons _ _ => rfl
      · rw [e2]
        exact newL_run hR (strs_rep hz) h k p np
  · exact h.elim⟩
/-- what is left when signs are stripped from both ends -/
def strp (a b : List Nat) : List Nat := cd (Txt.stripChars (tx a) (tx b))
theorem strp_nil {a b : List Nat} : strp a b = [] ↔ a.all (b.contains ·) = true := by
  rw [← strip_iff]
  unfold strp
  constructor
  · intro h
    rw [← h, tx_cd]
  · intro h
    rw [h]
    rfl
theorem strp_len {a b : List Nat} : (strp a b).length ≤ a.length := by
  have h : (Txt.stripChars (tx a) (tx b)).length ≤ (tx a).length := by
    unfold Txt.stripChars Txt.stripBy
    split
    · exact Nat.le_refl _
    · exact le_strSub _ _ _
  rw [tx_len] at h
  exact h
def dStrip : W → List W → Cs → (W → Cs → Prop) → Prop := fun x ws C Q => match x, ws with
  | .d (.str a), [.d (.str b)] => Q (.d (.str (strp a b))) C
  | _, _ => False
instance : LowM K rStrip dStrip := ⟨fun x ws C ad v vs H Qd Q hR rx r h k => by
  unfold dStrip at h
  split at h
  · rename_i a b
    obtain ⟨rfl, la⟩ := str_at rx
    cases r with
    | cons r1 r2 =>
      cases r2
      obtain ⟨rfl, lb⟩ := str_at r1
      refine ⟨tx a, tx b, rfl, rfl, by rw [tx_len]; exact Nat.le_trans la (by decide), ?_⟩
      rw [← tx_cd (Txt.stripChars (tx a) (tx b))]
      exact k _ C _ H ad h hR .refl (rw_str (Nat.le_trans strp_len la))
  · exact h.elim⟩
/-- int(text) -/
def rIntT : List V → Hp → VK → Prop := fun xs H Q => ∃ a n, xs = [.str a] ∧ PySem.intText? a = some n ∧ a.length ≤ 640 ∧ Q (.int n) H
theorem q_intT {X : Cx} : CallR X (.type "int") rIntT := call_int_str
def dIntT : List W → Cs → (W → Cs → Prop) → Prop := fun ws C Q => match ws with
  | [.d (.str z)] => ∃ n, PySem.intText? (tx z) = some n ∧ z.length ≤ 640 ∧ Q (.d (.int n)) C
  | _ => False
instance : LowA K rIntT dIntT := ⟨fun ws C ad vs H Qd Q hR r h k => by
  unfold dIntT at h
  split at h
  · rename_i z
    cases r with
    | cons r1 r2 =>
      cases r2
      obtain ⟨rfl, la⟩ := str_at r1
      obtain ⟨n, h1, h2, h3⟩ := h
      exact ⟨tx z, n, rfl, h1, by rw [tx_len]; exact h2, k _ C _ H ad h3 hR .refl rw_int⟩
  · exact h.elim⟩
/-! ## f'..' -/
def tJoined (ts : List TE) : TE := fun σ H Q => tJs ts Str.empty σ H fun out H1 => Q (.str out) H1
theorem pe_joinedK {X : Cx} {v1 v2 : Expr} {rest : List Expr} {ts : List TE} {pos : Pos} (h : PJ X (v1 :: v2 :: rest) ts) : PE X (.JoinedStr (v1 :: v2 :: rest) pos) (tJoined ts) := pe_joined h
class SimJ (K : PySem.W.Frag) (ts : List TE) (ds : outParam (List TD)) : Prop where
  all : Paired (fun t d => SimE K t d) ts ds
instance : SimJ K [] [] := ⟨.nil⟩
instance {t : TE} {ts : List TE} {d : TD} {ds : List TD} [a : SimE K t d] [b : SimJ K ts ds] : SimJ K (t :: ts) (d :: ds) := ⟨.cons a b.all⟩
def dJs : List TD → List Nat → TD
  | [], acc => fun _ C Q => Q (.d (.str acc)) C
  | t :: ts, acc => fun ρ C Q => t ρ C fun w C1 => match w with
    | .d (.str y) => (acc ++ y).length ≤ 1000000 ∧ dJs ts (acc ++ y) ρ C1 Q
    | _ => False
theorem tx_append (a b : List Nat) : tx a ++ tx b = tx (a ++ b) := TL.ext_tl (by
  rw [TL.tl_append]
  show (tx a).cps.toList ++ (tx b).cps.toList = (tx (a ++ b)).cps.toList
  rw [tx_cps, tx_cps, tx_cps])
theorem js_run {σ : L2.St} {ρ : Ws} {Qd : W → Cs → Prop} {Q : VK} : ∀ {ts : List TE} {ds : List TD}, Paired (fun t d => SimE K t d) ts ds → ∀ (acc : List Nat) (C : Cs) (ad : List Addr) (H : Hp), acc.length ≤ 1000000 → HeapR K ad C H → SlotR K (low ad C H) ad σ ρ → dJs ds acc ρ C Qd → ContD K ad C H Qd Q → tJs ts (tx acc) σ H fun out H1 => Q (.str out) H1
  | _, _, .nil, acc, C, ad, H, ha, hR, sR, h, k => k _ C _ H ad h hR .refl (rw_str ha)
  | _, _, .cons r t, acc, C, ad, H, ha, hR, sR, h, k => by
    refine r.run ρ C ad σ H _ _ hR sR h fun w C1 v H1 ad1 q1 hR1 g1 r1 => ?_
    split at q1
    · rename_i y
      obtain ⟨rfl, ly⟩ := str_at r1
      refine ⟨tx y, rfl, ?_, ?_⟩
      · rw [tx_append, tx_len]
        exact Nat.le_trans q1.1 (by decide)
      · rw [tx_append]
        exact js_run t (acc ++ y) C1 ad1 H1 q1.1 hR1 (sR.grw g1) q1.2 (k.grw g1)
    · exact q1.elim
instance {ts : List TE} {ds : List TD} [a : SimJ K ts ds] : SimE K (tJoined ts) (dJs ds []) := ⟨fun ρ C ad σ H Qd Q hR sR h k => js_run a.all [] C ad H (Nat.zero_le _) hR sR h k⟩
def dFmt (e : TD) : TD := fun ρ C Q => e ρ C fun w C1 => match w with
  | .d (.str z) => Q (.d (.str z)) C1
  | .d (.int i) => i.natAbs < 10 ^ 47 ∧ Q (.d (.str (figs i))) C1
  | _ => False
instance {t : TE} {d : TD} [a : SimE K t d] : SimE K (tFmt t) (dFmt d) := ⟨fun ρ C ad σ H Qd Q hR sR h k => a.run ρ C ad σ H _ _ hR sR h fun w C1 v H1 ad1 q1 hR1 g1 r1 => by
  split at q1
  · rename_i z
    obtain ⟨e, l⟩ := str_at r1
    refine .inl ⟨tx z, e, by rw [tx_len]; exact Nat.le_trans l (by decide), ?_⟩
    rw [← e]
    exact k _ C1 _ H1 ad1 q1 hR1 g1 r1
  · rename_i i
    refine .inr ⟨i, int_at r1, int_log q1.1, ?_⟩
    rw [show (toString i : Str) = tx (figs i) from (tx_cd _).symm]
    exact k _ C1 _ H1 ad1 q1.2 hR1 g1 (rw_str (Nat.le_trans (figs_len q1.1) (by decide)))
  · exact q1.elim⟩
end
/-! ## things compared, deep -/
mutual
/-- no truth and no dict within, no strange sign -/
def Pln : Dt → Bool
  | .non => true
  | .bl _ => false
  | .int _ => true
  | .str w => w.all (· < 1114112)
  | .lst ds => Plns ds
  | .tup ds => Plns ds
  | .dic => false
def Plns : List Dt → Bool
  | [] => true
  | d :: ds => Pln d && Plns ds
end
theorem plns_of {ds : List Dt} (h : ∀ d ∈ ds, Pln d = true) : Plns ds = true := by
  induction ds with
  | nil => unfold Plns; rfl
  | cons d ds ih => unfold Plns; rw [h d (List.mem_cons_self ..), ih fun x hx => h x (List.mem_cons_of_mem _ hx)]; rfl
mutual
theorem eqv_pln : ∀ (d e : Dt), Pln d = true → Pln e = true → (PyData.eqv d.py e.py = true ↔ d = e)
  | .non, e, h, k => by cases e <;> simp_all [Dt.py, PyData.eqv, Pln]
  | .bl _, e, h, k => by unfold Pln at h; cases h
  | .int i, e, h, k => by cases e <;> simp_all [Dt.py, PyData.eqv, Pln]
  | .str w, e, h, k => by
    cases e <;> simp_all [Dt.py, PyData.eqv, Pln]
    exact ⟨fun z => tx_inj z, fun z => by rw [z]⟩
  | .lst ds, e, h, k => by
    cases e with
    | lst es =>
      unfold Pln at h k
      have := eqvs_pln ds es h k
      simp only [Dt.py, PyData.eqv, Dt.lst.injEq]
      exact this
    | _ => simp_all [Dt.py, PyData.eqv, Pln]
  | .tup ds, e, h, k => by
    cases e with
    | tup es =>
      unfold Pln at h k
      have := eqvs_pln ds es h k
      simp only [Dt.py, PyData.eqv, Dt.tup.injEq]
      exact this
    | _ => simp_all [Dt.py, PyData.eqv, Pln]
  | .dic, e, h, k => by unfold Pln at h; cases h
theorem eqvs_pln : ∀ (ds es : List Dt), Plns ds = true → Plns es = true → (PyData.eqvAll (pyAll ds) (pyAll es) = true ↔ ds = es)
  | [], [], _, _ => by simp [pyAll, PyData.eqvAll]
  | [], _ :: _, _, _ => by simp [pyAll, PyData.eqvAll]
  | _ :: _, [], _, _ => by simp [pyAll, PyData.eqvAll]
  | d :: ds, e :: es, h, k => by
    unfold Plns at h k
    rw [Bool.and_eq_true] at h k
    have h1 := eqv_pln d e h.1 k.1
    have h2 := eqvs_pln ds es h.2 k.2
    simp only [pyAll, PyData.eqvAll, Bool.and_eq_true, h1, h2, List.cons.injEq]
end
mutual
theorem pln_lay : ∀ d : Dt, Pln d = true → d.py.canLay0 = true
  | .non, _ => by simp only [Dt.py, PyData.canLay0]
  | .bl _, h => by unfold Pln at h; cases h
  | .int _, _ => by simp only [Dt.py, PyData.canLay0]
  | .str w, h => by
    unfold Pln at h
    simp only [Dt.py, PyData.canLay0]
    show (tx w).cps.all (· < 1114112) = true
    unfold tx
    rw [List.all_toArray]
    exact h
  | .lst ds, h => by unfold Pln at h; simp only [Dt.py, PyData.canLay0]; exact plns_lay ds h
  | .tup ds, h => by unfold Pln at h; simp only [Dt.py, PyData.canLay0]; exact plns_lay ds h
  | .dic, h => by unfold Pln at h; cases h
theorem plns_lay : ∀ ds : List Dt, Plns ds = true → PyData.canLayAll0 (pyAll ds) = true
  | [], _ => by simp only [pyAll, PyData.canLayAll0]
  | d :: ds, h => by
    unfold Plns at h
    rw [Bool.and_eq_true] at h
    simp only [pyAll, PyData.canLayAll0, pln_lay d h.1, plns_lay ds h.2, Bool.and_self]
end
theorem pln_shaped {d : Dt} (h : Pln d = true) (hd : deep d ≤ 64) : SeqAt.shaped d.py = true := by
  show (d.py.canLay0 && decide (d.py.depth ≤ 64)) = true
  rw [pln_lay d h, depth_py, decide_eq_true hd]
  rfl
mutual
theorem at_dp {K : PySem.W.Frag} {H : Hp} : ∀ (d : Dt) (v : V), Pln d = true → At K H v d → Dp K H v d.py
  | .non, v, h, r => by unfold At at r; subst r; simp only [Dt.py]; exact .non
  | .bl _, v, h, r => by unfold Pln at h; cases h
  | .int i, v, h, r => by unfold At at r; subst r; simp only [Dt.py]; exact .int i
  | .str w, v, h, r => by unfold At at r; obtain ⟨rfl, _⟩ := r; simp only [Dt.py]; exact .str _
  | .lst ds, v, h, r => by
    unfold Pln at h
    unfold At at r
    obtain ⟨a, xs, rfl, h1, h2⟩ := r
    simp only [Dt.py]
    exact .lst h1 (ats_dp ds xs h h2)
  | .tup ds, v, h, r => by
    unfold Pln at h
    unfold At at r
    obtain ⟨a, xs, rfl, h1, h2⟩ := r
    simp only [Dt.py]
    exact .tup h1 (ats_dp ds xs h h2)
  | .dic, v, h, r => by unfold Pln at h; cases h
theorem ats_dp {K : PySem.W.Frag} {H : Hp} : ∀ (ds : List Dt) (vs : List V), Plns ds = true → Ats K H vs ds → DpAll K H vs (pyAll ds)
  | [], vs, h, r => by unfold Ats at r; subst r; simp only [pyAll]; exact .nil
  | d :: ds, vs, h, r => by
    unfold Plns at h
    rw [Bool.and_eq_true] at h
    unfold Ats at r
    obtain ⟨v, us, rfl, h1, h2⟩ := r
    simp only [pyAll]
    exact .cons (at_dp d v h.1 h1) (ats_dp ds us h.2 h2)
end
theorem eqv_dec (d e : Dt) (h : Pln d = true) (k : Pln e = true) [Decidable (d = e)] : PyData.eqv d.py e.py = decide (d = e) := by
  rw [Bool.eq_iff_iff, eqv_pln d e h k, decide_eq_true_iff]
/-- x == y, deep -/
def dEqD : RD2 := fun x y C Q => ∃ a b, rds C x a ∧ rds C y b ∧ (Pln a = true ∧ deep a ≤ 64 ∧ Pln b = true ∧ deep b ≤ 64) ∧ ∀ c : Bool, (c = true ↔ a = b) → Q (.d (.bl c)) C
def dNeD : RD2 := fun x y C Q => ∃ a b, rds C x a ∧ rds C y b ∧ (Pln a = true ∧ deep a ≤ 64 ∧ Pln b = true ∧ deep b ≤ 64) ∧ ∀ c : Bool, (c = true ↔ a = b) → Q (.d (.bl (!c))) C
section
variable {K : PySem.W.Frag}
theorem q_eqD (K : PySem.W.Frag) {X : Cx} (hu : X.A.units + 64 < cLine) (hK : X.K = K := by rfl) : OpR X (compareOp .Eq) (rEqD K) := hK ▸ op_eqD hu
theorem q_neD (K : PySem.W.Frag) {X : Cx} (hu : X.A.units + 64 < cLine) (hK : X.K = K := by rfl) : OpR X (compareOp .NotEq) (rNeD K) := hK ▸ op_neD hu
instance : Low2 K (rEqD K) dEqD := ⟨fun x y C ad v u H Qd Q hR rx ry h k => by
  obtain ⟨a, b, ha, hb, ⟨h1, h2, h3, h4⟩, q⟩ := h
  exact ⟨_, _, at_dp a v h1 (rds_at hR a x v rx ha), at_dp b u h3 (rds_at hR b y u ry hb), pln_shaped h1 h2, pln_shaped h3 h4, k _ C _ H ad (q _ (eqv_pln a b h1 h3)) hR .refl rw_bl⟩⟩
instance : Low2 K (rNeD K) dNeD := ⟨fun x y C ad v u H Qd Q hR rx ry h k => by
  obtain ⟨a, b, ha, hb, ⟨h1, h2, h3, h4⟩, q⟩ := h
  exact ⟨_, _, at_dp a v h1 (rds_at hR a x v rx ha), at_dp b u h3 (rds_at hR b y u ry hb), pln_shaped h1 h2, pln_shaped h3 h4, k _ C _ H ad (q _ (eqv_pln a b h1 h3)) hR .refl rw_bl⟩⟩
/-! ## repr -/
theorem q_repr (K : PySem.W.Frag) {X : Cx} (hg : X.A.guards = some []) (hu : X.A.units + 64 < cLine) (hK : X.K = K := by rfl) : CallR X (.builtin "repr") (rRepr K) := hK ▸ call_reprG hg hu
def dRepr : List W → Cs → (W → Cs → Prop) → Prop := fun ws C Q => ∃ w a, ws = [w] ∧ rds C w a ∧ isRow a = true ∧ Neat a ∧ (shw a).length ≤ 1000000 ∧ Q (.d (.str (cd (shw a)))) C
instance : LowA K (rRepr K) dRepr := ⟨fun ws C ad vs H Qd Q hR r h k => by
  obtain ⟨w, a, rfl, ha, hr, hn, hl, q⟩ := h
  cases r with
  | cons r1 r2 =>
    cases r2
    have at1 := rds_at hR a w _ r1 ha
    obtain ⟨p, xs, rfl, _⟩ := at_row at1 hr
    refine ⟨p, a, rfl, at1, hn, ?_⟩
    rw [← tx_cd (shw a)]
    exact k _ C _ H ad q hR .refl (rw_str hl)⟩
end
end BK

namespace BK
open PySem PySem.Spec PyProof.Rows L2
/-- a comprehension of things: what holds of those told so far and of the cells -/
theorem DLc.gen {J : ItD} {g : TDG} {t : TDT} {e : TD} {ρ0 : Ws} {C : Cs} {Q : W → Cs → Prop} (n : Nat) (it : Nat → W) (P : Nat → List Dt → Cs → Prop) (hn : n ≤ 16777216) (h0 : P 0 [] (C ++ [.lst []])) (hJ : ∀ i ds C', i ≤ n → P i ds C' → J i C' (if i < n then some (it i) else none))
    (hs : ∀ i ds C', i < n → P i ds C' → C'[C.length]? = some (.lst (ds.map W.d)) → ∀ (R : W → Cs → Prop) (S : Cs → Prop), (∀ x C2, C2[C.length]? = some (.lst (ds.map W.d)) → P (i + 1) (ds ++ [x]) (C2.set C.length (.lst ((ds ++ [x]).map W.d))) → R (.d x) C2) → (∀ C2, C2[C.length]? = some (.lst (ds.map W.d)) → P (i + 1) ds C2 → S C2) →
      g (it i) ρ0 C' fun ρ2 C2 => t ρ2 C2 fun b C3 => if b = true then e ρ2 C3 R else S C3)
    (hd : ∀ ds C', P n ds C' → C'[C.length]? = some (.lst (ds.map W.d)) → ds.length ≤ n → Q (.o C.length) C') : DLc J g t e ρ0 C C.length Q := by
  refine ⟨fun i m C' => m = n - i ∧ i ≤ n ∧ ∃ ds, P i ds C' ∧ C'[C.length]? = some (.lst (ds.map W.d)) ∧ ds.length ≤ i, ⟨n, rfl, Nat.zero_le _, [], h0, last_at, Nat.le_refl _⟩, ?_⟩
  rintro i m C' ⟨rfl, hi, ds, hp, hc, hl⟩
  have hj := hJ i ds C' hi hp
  by_cases lt : i < n
  · rw [if_pos lt] at hj
    refine .inr ⟨it i, hj, fun C' => ∃ ds, P (i + 1) ds C' ∧ C'[C.length]? = some (.lst (ds.map W.d)) ∧ ds.length ≤ i + 1, fun C' e => ⟨n - (i + 1), by omega, rfl, lt, e⟩, hs i ds C' lt hp hc _ _ (fun x C2 h2 hp2 => ?_) (fun C2 h2 hp2 => ⟨ds, hp2, h2, by omega⟩)⟩
    refine ⟨ds.map W.d, h2, by rw [List.length_map]; omega, ds ++ [x], ?_, ?_, by rw [List.length_append, List.length_singleton]; omega⟩
    · rw [List.map_append] at hp2
      exact hp2
    · rw [set_at h2, List.map_append]
      rfl
  · rw [if_neg lt] at hj
    have en : i = n := by omega
    subst en
    exact .inl ⟨hj, hd ds C' hp hc hl⟩
theorem shw_len {d : Dt} (h : Fits d) (hb : bulk d ≤ 15000) : (shw d).length ≤ 1000000 := by
  have h1 := PyData.shown_le_bulk 48 (by decide) d.py (fits_short d h)
  rw [bulk_py] at h1
  have h2 : (48 + 2) * bulk d ≤ 50 * 15000 := Nat.mul_le_mul (Nat.le_refl _) hb
  unfold shw
  omega
theorem atI_lt {α : Type} {xs : List α} {r : Nat} (h : r < xs.length) : ∃ x, atI xs (r : Int) = some x ∧ x ∈ xs := ⟨xs[r], atI_nat (List.getElem?_eq_getElem h), List.getElem_mem h⟩
end BK
namespace BK
open PySem PySem.Spec PyProof.Rows L2
theorem newL_d {ds : List Dt} {C : Cs} {Q : W → Cs → Prop} (q : Q (.d (.lst ds)) C) : newL (ds.map W.d) C Q := .inr ⟨ds, allD_map ds, q⟩
theorem newL_f {ws : List W} {ds : List Dt} {C : Cs} {Q : W → Cs → Prop} (e : allD ws = some ds) (q : Q (.d (.lst ds)) C) : newL ws C Q := .inr ⟨ds, e, q⟩
theorem newL_o {ws : List W} {C : Cs} {Q : W → Cs → Prop} (q : Q (.o C.length) (C ++ [.lst ws])) : newL ws C Q := .inl q
end BK
namespace BK
open PySem PySem.Spec PyProof.Rows L2
theorem pe_lcK {X : Cx} {e : Expr} {wi : TI} {g : TG} {tt : TT} {te : TE} {us : List Nat} (vs : List Nat) (h : PE X e (tLc wi g tt te us)) (hv : us = vs := by rfl) : PE X e (tLc wi g tt te vs) := hv ▸ h
theorem ps_lcK {X : Cx} {st : Stmt} {wi : TI} {g g2 : TG} {tt : TT} {te : TE} {us : List Nat} (vs : List Nat) (h : PS X st (tAsg (tLc wi g tt te us) g2)) (hv : us = vs := by rfl) : PS X st (tAsg (tLc wi g tt te vs) g2) := hv ▸ h
end BK

namespace BK
open PySem PySem.Spec PyProof.Rows L2
section
variable {K : PySem.W.Frag}
/-- str of a whole number or of a text -/
def rStrA : List V → Hp → VK → Prop := fun xs H Q => (∃ i, xs = [.int i] ∧ i.natAbs.log2 < 1920 ∧ Q (.str (toString i)) H) ∨ ∃ a, xs = [.str a] ∧ Q (.str a) H
theorem q_strA {X : Cx} : CallR X (.type "str") rStrA := CallR.or call_str_int SkE.call_str_str
def dStrA : List W → Cs → (W → Cs → Prop) → Prop := fun ws C Q => match ws with
  | [.d (.int i)] => i.natAbs < 10 ^ 47 ∧ Q (.d (.str (figs i))) C
  | [.d (.str z)] => Q (.d (.str z)) C
  | _ => False
instance : LowA K rStrA dStrA := ⟨fun ws C ad vs H Qd Q hR r h k => by
  unfold dStrA at h
  split at h
  · rename_i i
    cases r with
    | cons r1 r2 =>
      cases r2
      refine .inl ⟨i, by rw [int_at r1], int_log h.1, ?_⟩
      rw [show (toString i : Str) = tx (figs i) from (tx_cd _).symm]
      exact k _ C _ H ad h.2 hR .refl (rw_str (Nat.le_trans (figs_len h.1) (by decide)))
  · rename_i z
    cases r with
    | cons r1 r2 =>
      cases r2
      exact .inr ⟨tx z, by rw [(str_at r1).1], k _ C _ H ad h hR .refl (rw_str (str_at r1).2)⟩
  · exact h.elim⟩
/-! ## isinstance of a row or a thing -/
theorem q_isi (K : PySem.W.Frag) {X : Cx} (hK : X.K = K := by rfl) : CallR X (.builtin "isinstance") (rIsi K) := hK ▸ call_isi
def tyW (C : Cs) : W → Option String
  | .d x => some x.ty
  | .o i => match C[i]? with
    | some (.lst _) => some "list"
    | some (.tup _) => some "tuple"
    | _ => none
def isTy (t n : String) : Bool := decide (t = n) || (decide (t = "bool") && decide (n = "int"))
def dIsi (n : String) (e : TD) : TD := fun ρ C Q => e ρ C fun w C1 => match tyW C1 w with
  | some t => n ∈ ["list", "tuple", "bool", "str", "int"] ∧ Q (.d (.bl (isTy t n))) C1
  | none => False
theorem isi_tyx {H : Hp} {v : V} {t : String} {n : String} {Q : VK} (h : TyX K H v (.type t)) (ht : t ∈ knownTy) (hn : n ∈ ["list", "tuple", "bool", "str", "int"]) (q : Q (.bl (isTy t n)) H) : rIsi K [v, .ty n] H Q :=
  ⟨v, .ty n, .type t, .type n, _, rfl, .ty n, h, kit_ty (kit_known _ ht n hn), q⟩
instance {n : String} {t : TE} {d : TD} [a : SimE K t d] : SimE K (tCB (rIsi K) (tCons t (tCons (tC (.ty n)) tNil))) (dIsi n d) := ⟨fun ρ C ad σ H Qd Q hR sR h k => a.run ρ C ad σ H _ _ hR sR h fun w C1 v H1 ad1 q1 hR1 g1 r1 => by
  split at q1
  · rename_i t e
    show rIsi K [v, .ty n] H1 Q
    cases w with
    | d x =>
      cases e
      exact isi_ty r1.dAt q1.1 (k _ C1 _ H1 ad1 q1.2 hR1 g1 rw_bl)
    | o i =>
      obtain ⟨p, hp, rfl⟩ := r1
      dsimp only [tyW] at e
      split at e
      · rename_i ws hc
        cases e
        obtain ⟨vs, h1, h2⟩ := hR1.rep i p _ hp hc
        exact isi_tyx (.base (.lst h1)) (by decide) q1.1 (k _ C1 _ H1 ad1 q1.2 hR1 g1 rw_bl)
      · rename_i ws hc
        cases e
        obtain ⟨vs, h1, h2⟩ := hR1.rep i p _ hp hc
        exact isi_tyx (.base (.tup h1)) (by decide) q1.1 (k _ C1 _ H1 ad1 q1.2 hR1 g1 rw_bl)
      · cases e
  · exact q1.elim⟩
/-! ## x in row, deep; the number of a thing -/
theorem eqvs_any (d : Dt) (h : Pln d = true) : ∀ es : List Dt, Plns es = true → ((pyAll es).any (fun z => PyData.eqv z d.py) = true ↔ d ∈ es)
  | [], _ => by simp [pyAll]
  | e :: es, k => by
    unfold Plns at k
    rw [Bool.and_eq_true] at k
    have h1 := eqv_pln e d k.1 h
    have h2 := eqvs_any d h es k.2
    simp only [pyAll, List.any_cons, Bool.or_eq_true, h1, h2, List.mem_cons]
    constructor
    · rintro (e | m)
      · exact .inl e.symm
      · exact .inr m
    · rintro (e | m)
      · exact .inl e.symm
      · exact .inr m
theorem q_inD (K : PySem.W.Frag) {X : Cx} (hu : X.A.units + 65 < cLine) (hK : X.K = K := by rfl) : OpR X (compareOp .In) (rInD K) := hK ▸ op_inD hu
def dInD : RD2 := fun x y C Q => ∃ a ds, rds C x a ∧ rds C y (.lst ds) ∧ (Pln a = true ∧ deep a ≤ 64 ∧ Plns ds = true ∧ deep (.lst ds) ≤ 64) ∧ ∀ c : Bool, (c = true ↔ a ∈ ds) → Q (.d (.bl c)) C
instance : Low2 K (rInD K) dInD := ⟨fun x y C ad v u H Qd Q hR rx ry h k => by
  obtain ⟨a, ds, ha, hb, ⟨h1, h2, h3, h4⟩, q⟩ := h
  have at2 := at_dp (.lst ds) u (by unfold Pln; exact h3) (rds_at hR (.lst ds) y u ry hb)
  have sh2 := pln_shaped (d := .lst ds) (by unfold Pln; exact h3) h4
  simp only [Dt.py] at at2 sh2
  exact ⟨a.py, pyAll ds, at_dp a v h1 (rds_at hR a x v rx ha), at2, pln_shaped h1 h2, sh2, k _ C _ H ad (q _ (eqvs_any a h1 ds h3)) hR .refl rw_bl⟩⟩
end
end BK

namespace BK
open PySem PySem.Spec PyProof.Rows L2
/-! ## defs that only read and tell a leaf -/
def leaf : Dt → Bool
  | .lst _ => false
  | .tup _ => false
  | .dic => false
  | _ => true
theorem at_any {K : PySem.W.Frag} {L L' : Hp} {v : V} {d : Dt} (h : leaf d = true) (r : At K L v d) : At K L' v d := by
  cases d with
  | lst _ => cases h
  | tup _ => cases h
  | dic => cases h
  | _ => unfold At at r ⊢; exact r
def pureD (pre : List Dt → Prop) (F : List Dt → Dt) : SpD := fun ws C Q _ => ∃ ds : List Dt, ws = ds.map W.d ∧ pre ds ∧ Q (.d (F ds)) C
def pureR (pre : List Dt → Prop) (F : List Dt → Dt) : SpD := fun ws C Q _ => ∃ ds : List Dt, rdss C ws ds ∧ pre ds ∧ Q (.d (F ds)) C
section
variable {P : Program} {w : World} {K : PySem.W.Frag} {mg : Str → Option Value} {base : Heap} {k : Nat} {f : Addr} {fd : FuncData} {ps : List Str}
theorem nil_of {ad : List Addr} {H : Hp} (h : HeapR K ad [] H) : ad = [] := List.eq_nil_of_length_eq_zero h.len
theorem pure_imp {pre : List Dt → Prop} {F : List Dt → Dt} (hF : ∀ ds, pre ds → leaf (F ds) = true) {vs : List V} {H : Hp} {Q : VK} {E : XK} (h : lft K (pureR pre F) vs H Q E) : lft K (pureD pre F) vs H Q E := by
  obtain ⟨ws, C, ad, Qd, Xd, hR, rv, ⟨ds, hr, hp, q⟩, kd, kx⟩ := h
  refine ⟨ds.map W.d, [], [], fun w C1 => w = .d (F ds) ∧ C1 = [], X0, heap0, ?_, ⟨ds, rfl, hp, rfl, rfl⟩, ?_, contX0⟩
  · rw [low0]
    exact rep_ats (rdss_at hR ds ws vs rv hr)
  · rintro w C1 v H1 ad1 ⟨rfl, rfl⟩ hR1 g1 r1
    have e := nil_of hR1
    subst e
    have s := g1.low
    rw [low0, low0] at s
    exact kd _ C v H1 ad q (hR.same s) (grw_same s) (at_any (hF ds hp) r1)
theorem FnOk.rd {CX : CXT} {pre : List Dt → Prop} {F : List Dt → Dt} (h : FnOk P w K mg base CX k f fd ps (lft K (pureD pre F))) (hF : ∀ ds, pre ds → leaf (F ds) = true) : FnOk P w K mg base CX k f fd ps (lft K (pureR pre F)) :=
  h.imp fun _ _ _ _ => pure_imp hF
end
theorem rdss1 {C : Cs} {w : W} {d : Dt} (h : rds C w d) : rdss C [w] [d] := by
  unfold rdss
  exact ⟨w, [], rfl, h, by unfold rdss; rfl⟩
/-! ## joined texts' lengths -/
theorem sum_le {zs : List (List Nat)} {L : Nat} (h : ∀ z ∈ zs, z.length ≤ L) : (zs.map (·.length)).sum ≤ zs.length * L := by
  induction zs with
  | nil => simp
  | cons z zs ih =>
    have h1 := h z (List.mem_cons_self ..)
    have h2 := ih fun y hy => h y (List.mem_cons_of_mem _ hy)
    rw [List.map_cons, List.sum_cons, List.length_cons, Nat.add_mul]
    omega
theorem joinL_len {a : List Nat} : ∀ {zs : List (List Nat)}, (TL.joinL a zs).length ≤ (zs.map (·.length)).sum + zs.length * a.length
  | [] => by simp [TL.joinL]
  | [p] => by
    show p.length ≤ _
    simp
  | p :: q :: r => by
    show (p ++ (a ++ TL.joinL a (q :: r))).length ≤ _
    have := joinL_len (a := a) (zs := q :: r)
    rw [List.length_append, List.length_append]
    rw [List.map_cons, List.sum_cons, List.length_cons (a := p), Nat.add_mul]
    omega
theorem joinL_ok {a : List Nat} {zs : List (List Nat)} {L n : Nat} (h : ∀ z ∈ zs, z.length ≤ L) (hn : zs.length ≤ n) (hb : n * (L + a.length) ≤ 1000000) : (zs.map (·.length)).sum + zs.length * a.length ≤ 16777216 ∧ (TL.joinL a zs).length ≤ n * (L + a.length) := by
  have h1 := sum_le h
  have h2 := joinL_len (a := a) (zs := zs)
  have h3 : zs.length * (L + a.length) ≤ n * (L + a.length) := Nat.mul_le_mul_right _ hn
  rw [Nat.mul_add] at h3
  constructor <;> omega
theorem selT_strs {ds : List Dt} {zs : List (List Nat)} (h : ds = zs.map Dt.str) : selT (ds.map W.d) = some zs := by
  subst h
  rw [List.map_map]
  exact selT_map zs
end BK

namespace BK
open PySem PySem.Spec PyProof.Rows L2
theorem rowW_1 {C : Cs} {ds : List Dt} : rowW C (.d (.lst ds)) = some (ds.map W.d) := rfl
theorem rowW_2 {C : Cs} {ds : List Dt} : rowW C (.d (.tup ds)) = some (ds.map W.d) := rfl
theorem rowW_3 {C : Cs} {i : Nat} : rowW C (.o i) = (match C[i]? with | some (.lst ws) => some ws | some (.tup ws) => some ws | _ => none) := rfl
theorem lstW_1 {C : Cs} {ds : List Dt} : lstW C (.d (.lst ds)) = some (ds.map W.d) := rfl
theorem lstW_2 {C : Cs} {i : Nat} : lstW C (.o i) = (match C[i]? with | some (.lst ws) => some ws | _ => none) := rfl
theorem rowIt_1 {C : Cs} {ds : List Dt} : rowIt C (.d (.lst ds)) = some (itList (ds.map W.d)) := rfl
theorem rowIt_2 {C : Cs} {ds : List Dt} : rowIt C (.d (.tup ds)) = some (itList (ds.map W.d)) := rfl
theorem rowIt_3 {C : Cs} {k : Nat} : rowIt C (.o k) = (match C[k]? with | some (.lst _) => some (itOwn k) | some (.tup _) => some (itOwnT k) | _ => none) := rfl
theorem ixW_1 {C : Cs} {z : List Nat} {i : Int} : ixW C (.d (.str z)) (.d (.int i)) = (atI z i).map (fun c => W.d (.str [c])) := rfl
theorem ixW_2 {C : Cs} {ds : List Dt} {i : Int} : ixW C (.d (.lst ds)) (.d (.int i)) = (atI ds i).map W.d := rfl
theorem ixW_3 {C : Cs} {ds : List Dt} {i : Int} : ixW C (.d (.tup ds)) (.d (.int i)) = (atI ds i).map W.d := rfl
theorem ixW_4 {C : Cs} {k : Nat} {i : Int} : ixW C (.o k) (.d (.int i)) = (match rowW C (.o k) with | some ws => atI ws i | none => none) := rfl
theorem lenW_1 {C : Cs} {z : List Nat} : lenW C (.d (.str z)) = some z.length := rfl
theorem lenW_2 {C : Cs} {z : List Dt} : lenW C (.d (.lst z)) = some z.length := rfl
theorem lenW_3 {C : Cs} {z : List Dt} : lenW C (.d (.tup z)) = some z.length := rfl
theorem lenW_4 {C : Cs} {i : Nat} : lenW C (.o i) = (match rowW C (.o i) with | some ws => some ws.length | none => none) := rfl
theorem truW_1 {C : Cs} : truW C (.d .non) = some false := rfl
theorem truW_2 {C : Cs} {b : Bool} : truW C (.d (.bl b)) = some b := rfl
theorem truW_3 {C : Cs} {i : Int} : truW C (.d (.int i)) = some (i != 0) := rfl
theorem truW_4 {C : Cs} {z : List Nat} : truW C (.d (.str z)) = some (!z.isEmpty) := rfl
theorem truW_5 {C : Cs} {z : List Dt} : truW C (.d (.lst z)) = some (!z.isEmpty) := rfl
theorem truW_6 {C : Cs} {z : List Dt} : truW C (.d (.tup z)) = some (!z.isEmpty) := rfl
theorem truW_7 {C : Cs} {i : Nat} : truW C (.o i) = (match C[i]? with | some (.lst ws) => some (!ws.isEmpty) | some (.tup ws) => some (!ws.isEmpty) | some (.dK kvs) => some (!kvs.isEmpty) | _ => none) := rfl
theorem tyW_1 {C : Cs} {x : Dt} : tyW C (.d x) = some x.ty := rfl
theorem tyW_2 {C : Cs} {i : Nat} : tyW C (.o i) = (match C[i]? with | some (.lst _) => some "list" | some (.tup _) => some "tuple" | _ => none) := rfl
theorem selB_1  : selB [] = some [] := rfl
theorem selB_2 {i : Bool} {ws : List W} : selB (.d (.bl i) :: ws) = (selB ws).map (i :: ·) := rfl
theorem selI_1  : selI [] = some [] := rfl
theorem selI_2 {i : Int} {ws : List W} : selI (.d (.int i) :: ws) = (selI ws).map (i :: ·) := rfl
theorem selT_1  : selT [] = some [] := rfl
theorem selT_2 {i : List Nat} {ws : List W} : selT (.d (.str i) :: ws) = (selT ws).map (i :: ·) := rfl
theorem sEq_1  : sEq (.d .non) (.d .non) = some true := rfl
theorem sEq_2 {y : Int}  : sEq (.d .non) (.d (.int y)) = some false := rfl
theorem sEq_3 {y : Bool}  : sEq (.d .non) (.d (.bl y)) = some false := rfl
theorem sEq_4 {y : List Nat}  : sEq (.d .non) (.d (.str y)) = some false := rfl
theorem sEq_5 {x : Int}  : sEq (.d (.int x)) (.d .non) = some false := rfl
theorem sEq_6 {x : Int} {y : Int}  : sEq (.d (.int x)) (.d (.int y)) = some (decide (x = y)) := rfl
theorem sEq_7 {x : Int} {y : List Nat}  : sEq (.d (.int x)) (.d (.str y)) = some false := rfl
theorem sEq_8 {x : Bool}  : sEq (.d (.bl x)) (.d .non) = some false := rfl
theorem sEq_9 {x : Bool} {y : Bool}  : sEq (.d (.bl x)) (.d (.bl y)) = some (decide (x = y)) := rfl
theorem sEq_10 {x : Bool} {y : List Nat}  : sEq (.d (.bl x)) (.d (.str y)) = some false := rfl
theorem sEq_11 {x : List Nat}  : sEq (.d (.str x)) (.d .non) = some false := rfl
theorem sEq_12 {x : List Nat} {y : Int}  : sEq (.d (.str x)) (.d (.int y)) = some false := rfl
theorem sEq_13 {x : List Nat} {y : Bool}  : sEq (.d (.str x)) (.d (.bl y)) = some false := rfl
theorem sEq_14 {x : List Nat} {y : List Nat}  : sEq (.d (.str x)) (.d (.str y)) = some (decide (x = y)) := rfl
theorem isNon_1  : isNon (.d .non) = true := rfl
theorem isNon_2 {x : Int} : isNon (.d (.int x)) = false := rfl
theorem isNon_3 {x : List Nat} : isNon (.d (.str x)) = false := rfl
theorem isNon_4 {x : Bool} : isNon (.d (.bl x)) = false := rfl
theorem isNon_5 {x : List Dt} : isNon (.d (.lst x)) = false := rfl
theorem isNon_6 {x : List Dt} : isNon (.d (.tup x)) = false := rfl
theorem isNon_7 {x : Nat} : isNon (.o x) = false := rfl
theorem isT_1 {x : List Nat} : isT (.d (.str x)) = true := rfl
end BK

namespace BK
open PySem PySem.Spec PyProof.Rows L2
section
variable {K : PySem.W.Frag}
/-! ## + and == of anything -/
def rAddA (K : PySem.W.Frag) : R2 := fun x y H Q => rI0 (fun i j => .int (i + j)) x y H Q ∨ (∃ i j, x = .str i ∧ y = .str j ∧ i.length + j.length ≤ sizeLine ∧ Q (.str (i ++ j)) H) ∨ rCatL K x y H Q
theorem q_addA (K : PySem.W.Frag) {X : Cx} (hK : X.K = K := by rfl) : OpR X (binaryOp .Add) (rAddA K) := OpR.or op_add (OpR.or op_add_str (q_cat K hK))
def dAddA : RD2 := fun x y C Q => match x, y with
  | .d (.int i), .d (.int j) => Q (.d (.int (i + j))) C
  | .d (.str a), .d (.str b) => (a ++ b).length ≤ 1000000 ∧ Q (.d (.str (a ++ b))) C
  | x, y => dCat x y C Q
theorem dAddA_i {i j : Int} {C : Cs} {Q : W → Cs → Prop} : dAddA (.d (.int i)) (.d (.int j)) C Q = Q (.d (.int (i + j))) C := rfl
theorem dAddA_s {a b : List Nat} {C : Cs} {Q : W → Cs → Prop} : dAddA (.d (.str a)) (.d (.str b)) C Q = ((a ++ b).length ≤ 1000000 ∧ Q (.d (.str (a ++ b))) C) := rfl
theorem dAddA_ll {a b : List Dt} {C : Cs} {Q : W → Cs → Prop} : dAddA (.d (.lst a)) (.d (.lst b)) C Q = dCat (.d (.lst a)) (.d (.lst b)) C Q := rfl
theorem dAddA_lo {a : List Dt} {j : Nat} {C : Cs} {Q : W → Cs → Prop} : dAddA (.d (.lst a)) (.o j) C Q = dCat (.d (.lst a)) (.o j) C Q := rfl
theorem dAddA_ol {a : List Dt} {j : Nat} {C : Cs} {Q : W → Cs → Prop} : dAddA (.o j) (.d (.lst a)) C Q = dCat (.o j) (.d (.lst a)) C Q := rfl
theorem dAddA_oo {i j : Nat} {C : Cs} {Q : W → Cs → Prop} : dAddA (.o i) (.o j) C Q = dCat (.o i) (.o j) C Q := rfl
instance : Low2 K (rAddA K) dAddA := ⟨fun x y C ad v u H Qd Q hR rx ry h k => by
  unfold dAddA at h
  split at h
  · exact .inl ⟨_, _, int_at rx, int_at ry, k _ C _ H ad h hR .refl rw_int⟩
  · rename_i a b
    obtain ⟨rfl, la⟩ := str_at rx
    obtain ⟨rfl, lb⟩ := str_at ry
    have h1 := h.1
    rw [List.length_append] at h1
    refine .inr (.inl ⟨tx a, tx b, rfl, rfl, by rw [tx_len, tx_len]; exact Nat.le_trans h1 (by decide), ?_⟩)
    rw [tx_append]
    exact k _ C _ H ad h.2 hR .refl (rw_str h.1)
  · exact .inr (.inr (Low2.run (K := K) (r := rCatL K) (d := dCat) _ _ C ad v u H Qd Q hR rx ry h k))⟩
def rEqA (K : PySem.W.Frag) : R2 := fun x y H Q => rEq x y H Q ∨ rEqD K x y H Q
def rNeA (K : PySem.W.Frag) : R2 := fun x y H Q => rNe x y H Q ∨ rNeD K x y H Q
theorem q_eqA (K : PySem.W.Frag) {X : Cx} (hu : X.A.units + 64 < cLine) (hK : X.K = K := by rfl) : OpR X (compareOp .Eq) (rEqA K) := OpR.or op_eq (q_eqD K hu hK)
theorem q_neA (K : PySem.W.Frag) {X : Cx} (hu : X.A.units + 64 < cLine) (hK : X.K = K := by rfl) : OpR X (compareOp .NotEq) (rNeA K) := OpR.or op_ne (q_neD K hu hK)
def dEqA : RD2 := fun x y C Q => match sEq x y with
  | some b => Q (.d (.bl b)) C
  | none => dEqD x y C Q
def dNeA : RD2 := fun x y C Q => match sEq x y with
  | some b => Q (.d (.bl (!b))) C
  | none => dNeD x y C Q
instance : Low2 K (rEqA K) dEqA := ⟨fun x y C ad v u H Qd Q hR rx ry h k => by
  unfold dEqA at h
  split at h
  · rename_i b e
    obtain ⟨h1, h2⟩ := sEq_run rx ry e
    exact .inl ⟨h1, by rw [h2]; exact k _ C _ H ad h hR .refl rw_bl⟩
  · exact .inr (Low2.run (K := K) (r := rEqD K) (d := dEqD) _ _ C ad v u H Qd Q hR rx ry h k)⟩
instance : Low2 K (rNeA K) dNeA := ⟨fun x y C ad v u H Qd Q hR rx ry h k => by
  unfold dNeA at h
  split at h
  · rename_i b e
    obtain ⟨h1, h2⟩ := sEq_run rx ry e
    exact .inl ⟨h1, by rw [h2]; exact k _ C _ H ad h hR .refl rw_bl⟩
  · exact .inr (Low2.run (K := K) (r := rNeD K) (d := dNeD) _ _ C ad v u H Qd Q hR rx ry h k)⟩
theorem sEq_ol {i : Nat} {y : W} : sEq (.o i) y = none := by cases y <;> rfl
theorem sEq_lo {i : Nat} {y : W} : sEq y (.o i) = none := by
  cases y with
  | d x => cases x <;> rfl
  | o i => rfl
theorem sEq_ll {a b : List Dt} : sEq (.d (.lst a)) (.d (.lst b)) = none := rfl
theorem sEq_tt {a b : List Dt} : sEq (.d (.tup a)) (.d (.tup b)) = none := rfl
theorem sEq_lt {a b : List Dt} : sEq (.d (.lst a)) (.d (.tup b)) = none := rfl
theorem sEq_tl {a b : List Dt} : sEq (.d (.tup a)) (.d (.lst b)) = none := rfl
/-! ## a module's dict of texts, asked -/
def rInSD (d : Addr) (ps : List (Str × Str)) (neg : Bool) : R2 := fun a b H Q => ∃ z : Str, a = .str z ∧ b = .ref d ∧ Q (.bl (if neg then !(ps.lookup z).isSome else (ps.lookup z).isSome)) H
theorem q_inSD {X : Cx} {x : Str} {ps : List (Str × Str)} (D : SDict X.K X.w X.mg x ps) : OpR X (compareOp .In) (rInSD D.d ps false) := op_in_sd D
theorem q_notInSD {X : Cx} {x : Str} {ps : List (Str × Str)} (D : SDict X.K X.w X.mg x ps) : OpR X (compareOp .NotIn) (rInSD D.d ps true) := by
  intro pn sh σ G a b v u Q J ra rb h
  obtain ⟨z, e1, e2, q⟩ := h
  cases hl : ps.lookup z with
  | none =>
    rw [hl] at q
    exact op_notIn_kd D.k pn sh σ G a b v u Q J ra rb ⟨z, .none, e1, e2, D.none hl, q⟩
  | some y =>
    rw [hl] at q
    obtain ⟨t, e⟩ := D.some hl
    exact op_notIn_kd D.k pn sh σ G a b v u Q J ra rb ⟨z, _, e1, e2, e, q⟩
def inS (ps : List (Str × Str)) (z : List Nat) : Bool := (ps.lookup (tx z)).isSome
def dInSD (ps : List (Str × Str)) (neg : Bool) (e : TD) : TD := fun ρ C Q => e ρ C fun w C1 => match w with
  | .d (.str z) => Q (.d (.bl (if neg then !inS ps z else inS ps z))) C1
  | _ => False
instance {d : Addr} {ps : List (Str × Str)} {neg : Bool} {t : TE} {e : TD} [a : SimE K t e] : SimE K (tOp (rInSD d ps neg) t (tC (.ref d))) (dInSD ps neg e) := ⟨fun ρ C ad σ H Qd Q hR sR h k => a.run ρ C ad σ H _ _ hR sR h fun w C1 v H1 ad1 q1 hR1 g1 r1 => by
  split at q1
  · rename_i z
    exact ⟨tx z, (str_at r1).1, rfl, k _ C1 _ H1 ad1 q1 hR1 g1 rw_bl⟩
  · exact q1.elim⟩
theorem hu65 {A : Around} {k : Nat} (hr : Room k A) : A.units + 65 < cLine := by have := hr.un; omega
def dNever : TDS := fun _ _ _ => False
instance : SimS K tNever dNever := ⟨fun ρ C ad σ H DD D hR sR h k => h.elim⟩
end
end BK
namespace BK
open PySem PySem.Spec PyProof.Rows L2
/-- a comprehension of anything -/
theorem DLc.genW {J : ItD} {g : TDG} {t : TDT} {e : TD} {ρ0 : Ws} {C : Cs} {Q : W → Cs → Prop} (n : Nat) (it : Nat → W) (P : Nat → List W → Cs → Prop) (hn : n ≤ 16777216) (h0 : P 0 [] (C ++ [.lst []])) (hJ : ∀ i ws C', i ≤ n → P i ws C' → J i C' (if i < n then some (it i) else none))
    (hs : ∀ i ws C', i < n → P i ws C' → C'[C.length]? = some (.lst ws) → ∀ (R : W → Cs → Prop) (S : Cs → Prop), (∀ y C2, C2[C.length]? = some (.lst ws) → P (i + 1) (ws ++ [y]) (C2.set C.length (.lst (ws ++ [y]))) → R y C2) → (∀ C2, C2[C.length]? = some (.lst ws) → P (i + 1) ws C2 → S C2) →
      g (it i) ρ0 C' fun ρ2 C2 => t ρ2 C2 fun b C3 => if b = true then e ρ2 C3 R else S C3)
    (hd : ∀ ws C', P n ws C' → C'[C.length]? = some (.lst ws) → ws.length ≤ n → Q (.o C.length) C') : DLc J g t e ρ0 C C.length Q := by
  refine ⟨fun i m C' => m = n - i ∧ i ≤ n ∧ ∃ ws, P i ws C' ∧ C'[C.length]? = some (.lst ws) ∧ ws.length ≤ i, ⟨n, rfl, Nat.zero_le _, [], h0, last_at, Nat.le_refl _⟩, ?_⟩
  rintro i m C' ⟨rfl, hi, ws, hp, hc, hl⟩
  have hj := hJ i ws C' hi hp
  by_cases lt : i < n
  · rw [if_pos lt] at hj
    refine .inr ⟨it i, hj, fun C' => ∃ ws, P (i + 1) ws C' ∧ C'[C.length]? = some (.lst ws) ∧ ws.length ≤ i + 1, fun C' e => ⟨n - (i + 1), by omega, rfl, lt, e⟩, hs i ws C' lt hp hc _ _ (fun y C2 h2 hp2 => ?_) (fun C2 h2 hp2 => ⟨ws, hp2, h2, by omega⟩)⟩
    exact ⟨ws, h2, by omega, ws ++ [y], hp2, set_at h2, by rw [List.length_append, List.length_singleton]; omega⟩
  · rw [if_neg lt] at hj
    have en : i = n := by omega
    subst en
    exact .inl ⟨hj, hd ws C' hp hc hl⟩
theorem numL_head : ∀ n : Nat, 0 < n → (TL.numL n).head? ≠ some 48 := by
  intro n
  induction n using Nat.strongRecOn with
  | _ n ih =>
    intro h0
    by_cases h : n < 10
    · rw [TL.numL_lt h]
      intro e
      have : 48 + n = 48 := Option.some.inj e
      omega
    · rw [TL.numL_step (by omega)]
      have := ih (n / 10) (by omega) (by omega)
      cases hz : TL.numL (n / 10) with
      | nil => exact absurd hz (TL.numL_ne _)
      | cons c r =>
        rw [hz] at this
        exact this
theorem figs_nat (n : Nat) : figs (n : Int) = TL.numL n := TL.tl_num n
end BK

namespace BK
open PySem PySem.Spec PyProof.Rows L2
section
variable {K : PySem.W.Frag}
/-- x[::-1] -/
theorem pe_revLK (K : PySem.W.Frag) {X : Cx} {e : Expr} {te : TE} {k : Nat} {p1 p2 p3 pos : Pos} (he : PE X e te) (hK : X.K = K := by rfl) : PE X (.Subscript e (.Slice none none (some (.UnaryOp .USub (.Constant (.int 1) k p1) p2)) p3) pos) (tRevL K te) := hK ▸ pe_revL he
def dRevL (e : TD) : TD := fun ρ C Q => e ρ C fun x C1 => match lstW C1 x with
  | some xs => newL xs.reverse C1 Q
  | none => False
instance {t : TE} {d : TD} [a : SimE K t d] : SimE K (tRevL K t) (dRevL d) := ⟨fun ρ C ad σ H Qd Q hR sR h k => a.run ρ C ad σ H _ _ hR sR h fun x C1 v H1 ad1 q1 hR1 g1 r1 => by
  split at q1
  · rename_i xs e
    obtain ⟨p, us, rfl, h1, r2, _⟩ := lst_of hR1 r1 e
    exact ⟨p, us, rfl, h1, newL_run hR1 (prd_rev2 r2) q1 (k.grw g1)⟩
  · exact q1.elim⟩
/-- enumerate: an own list of things, too -/
def itEnumO (k : Nat) : ItD := fun i C r => ∃ ds : List Dt, C[k]? = some (.lst (ds.map W.d)) ∧ itEnum (ds.map W.d) i C r
theorem low_enumO {ad : List Addr} {C : Cs} {H : Hp} {a : Addr} {k : Nat} (ha : ad[k]? = some a) : LowIt K ad C H (Ite K a) (itEnumO k) := by
  refine ⟨fun ad2 C2 H2 i hR g e => ?_, fun ad2 C2 H2 i w hR g e => ?_, fun ad2 C2 H2 i w x H3 hR g e y => ?_⟩
  · obtain ⟨ds, hc, e⟩ := e
    obtain ⟨vs, h1, h2⟩ := hR.rep k a _ (g.pre k a ha) hc
    exact ⟨vs, SqL.of h1, by have := itEnum_none e; have := (ats_of h2).len; omega⟩
  · obtain ⟨ds, hc, e⟩ := e
    obtain ⟨vs, h1, h2⟩ := hR.rep k a _ (g.pre k a ha) hc
    obtain ⟨x, hx, rfl⟩ := itEnum_some e
    exact (walk_enum (K := K) (a := a) (xs := vs)).1 i H2 (by have := (List.getElem?_eq_some_iff.mp hx).1; have := (ats_of h2).len; omega) (SqL.of h1)
  · obtain ⟨ds, hc, e⟩ := e
    obtain ⟨vs, h1, h2⟩ := hR.rep k a _ (g.pre k a ha) hc
    obtain ⟨z, hz, _⟩ := itEnum_some e
    exact enum_yld (ats_of h2) hR .refl e ((walk_enum (K := K) (a := a) (xs := vs)).3 i H2 x H3 (by have := (List.getElem?_eq_some_iff.mp hz).1; have := (ats_of h2).len; omega) (SqL.of h1) y)
def dEnumO (a : TDA) : TDI := fun ρ C R => a ρ C fun ws C1 => match ws with
  | [.d (.lst ds)] => R (itEnum (ds.map W.d)) C1
  | [.d (.tup ds)] => R (itEnum (ds.map W.d)) C1
  | [.o k] => match C1[k]? with
    | some (.lst _) => R (itEnumO k) C1
    | _ => False
  | _ => False
instance {t : TA} {d : TDA} [a : SimA K t d] : SimI K (iEnumR K t) (dEnumO d) := ⟨fun ρ C ad σ H Rd R hR sR h k => a.run ρ C ad σ H _ _ hR sR h fun ws C1 vs H1 ad1 q1 hR1 g1 r1 => by
  split at q1
  · rename_i ds
    cases r1 with
    | cons ra rr =>
      cases rr
      rename_i v
      have r2 : At K _ v (.lst ds) := ra
      unfold At at r2
      obtain ⟨p, xs, rfl, h1, h2⟩ := r2
      exact ⟨p, xs, rfl, .inl ⟨(low_same _ _ _).seq h1, k _ _ C1 H1 ad1 q1 hR1 g1 (low_enum h1 h2)⟩⟩
  · rename_i ds
    cases r1 with
    | cons ra rr =>
      cases rr
      rename_i v
      have r2 : At K _ v (.tup ds) := ra
      unfold At at r2
      obtain ⟨p, xs, rfl, h1, h2⟩ := r2
      exact ⟨p, xs, rfl, .inr ⟨sameT (low_same _ _ _) h1, k _ _ C1 H1 ad1 q1 hR1 g1 (low_enumT h1 h2)⟩⟩
  · rename_i j
    cases r1 with
    | cons ra rr =>
      cases rr
      split at q1
      · rename_i ws hc
        obtain ⟨p, hp, rfl⟩ := ra
        obtain ⟨us, h1, _⟩ := hR1.rep j p _ hp hc
        exact ⟨p, us, rfl, .inl ⟨SqL.of h1, k _ _ C1 H1 ad1 q1 hR1 g1 (low_enumO hp)⟩⟩
      · exact q1.elim
  · exact q1.elim⟩
theorem DFor.enumO {g : TDG} {t : TDS} {D : DEnds} {ρ : Ws} {C : Cs} {k : Nat} {ds : List Dt} (P : Nat → Ws → Cs → Prop) (h0 : P 0 ρ C) (hc : ∀ i ρ C, P i ρ C → C[k]? = some (.lst (ds.map W.d))) (hn : ∀ ρ C, P ds.length ρ C → D.nx ρ C)
    (hs : ∀ i x ρ C, ds[i]? = some x → P i ρ C → g (.d (.tup [.int (i : Nat), x])) ρ C fun ρ2 C2 => t { D with nx := P (i + 1), ct := P (i + 1), bk := D.nx } ρ2 C2) : DFor (itEnumO k) g t D ρ C := by
  refine DFor.by ds.length (fun i => .d (.tup [.int (i : Nat), ds.getD i .non])) P h0 (fun ρ C p => ⟨⟨ds, hc _ ρ C p, ?_⟩, hn ρ C p⟩) fun i ρ C hi p => ?_
  · unfold itEnum
    rw [List.getElem?_map, List.getElem?_eq_none_iff.mpr (Nat.le_refl _)]
    rfl
  · have e : ds[i]? = some (ds.getD i .non) := by rw [List.getD_eq_getElem?_getD, List.getElem?_eq_getElem hi]; rfl
    refine ⟨⟨ds, hc _ ρ C p, ?_⟩, hs i _ ρ C e p⟩
    unfold itEnum
    rw [List.getElem?_map, e]
    rfl
end
end BK

namespace BK
open PySem PySem.Spec PyProof.Rows L2
section
variable {K : PySem.W.Frag}
/-! ## objects -/
theorem cl_rfl {c : Addr} : (c = c) = True := eq_self c
theorem prd_look {α β : Type} {R : α → β → Prop} : ∀ {xs : List (Str × α)} {ys : List (Str × β)}, Paired (fun p q => p.1 = q.1 ∧ R p.2 q.2) xs ys → ∀ f : Str, (∀ y, ys.lookup f = some y → ∃ x, xs.lookup f = some x ∧ R x y) ∧ (ys.lookup f = none → xs.lookup f = none)
  | _, _, .nil, f => ⟨fun y h => (nomatch h), fun _ => rfl⟩
  | _, _, .cons (a := a) (b := b) r t, f => by
    obtain ⟨g, x⟩ := a
    obtain ⟨g', y⟩ := b
    obtain ⟨r1, r2⟩ := r
    cases r1
    have ih := prd_look t f
    show (∀ z, List.lookup f ((g, y) :: _) = some z → ∃ w, List.lookup f ((g, x) :: _) = some w ∧ R w z) ∧ (List.lookup f ((g, y) :: _) = none → List.lookup f ((g, x) :: _) = none)
    by_cases e : f = g
    · subst e
      rw [List.lookup_cons_self, List.lookup_cons_self]
      exact ⟨fun z h => by cases h; exact ⟨x, rfl, r2⟩, fun h => by cases h⟩
    · have hb : (f == g) = false := beq_eq_false_iff_ne.mpr e
      rw [List.lookup_cons, List.lookup_cons, hb]
      exact ih
/-- fields with one put to them -/
def putW (f : Str) (w : W) : List (Str × W) → List (Str × W)
  | [] => [(f, w)]
  | (g, x) :: r => if g = f then (g, w) :: r else (g, x) :: putW f w r
theorem prd_put {R : V → W → Prop} {f : Str} {v : V} {w : W} (r : R v w) : ∀ {xs : List (Str × V)} {ys : List (Str × W)}, Paired (fun p q => p.1 = q.1 ∧ R p.2 q.2) xs ys → Paired (fun p q => p.1 = q.1 ∧ R p.2 q.2) (putF f v xs) (putW f w ys)
  | _, _, .nil => .cons ⟨rfl, r⟩ .nil
  | _, _, .cons (a := a) (b := b) h t => by
    obtain ⟨g, x⟩ := a
    obtain ⟨g', y⟩ := b
    obtain ⟨h1, h2⟩ := h
    cases h1
    unfold putF putW
    by_cases e : g = f
    · rw [if_pos e, if_pos e]
      exact .cons ⟨rfl, r⟩ t
    · rw [if_neg e, if_neg e]
      exact .cons ⟨rfl, h2⟩ (prd_put r t)
/-- what an object's field holds -/
def fldW (C : Cs) (c : Addr) (f : Str) : W → Option W
  | .o i => match C[i]? with
    | some (.ins _ fs) => fs.lookup f
    | _ => none
  | _ => none
theorem ins_of {ad : List Addr} {C : Cs} {H : Hp} {v : V} {i : Nat} {c : Addr} {fs : List (Str × W)} (h : HeapR K ad C H) (r : RepW K (low ad C H) ad v (.o i)) (e : C[i]? = some (.ins c fs)) : ∃ a dx gs, v = .ref a ∧ H a = some (.ins c dx gs) ∧ Paired (fun p q => p.1 = q.1 ∧ RepW K (low ad C H) ad p.2 q.2) gs fs ∧ ad[i]? = some a := by
  obtain ⟨a, ha, rfl⟩ := r
  obtain ⟨dx, gs, h1, h2⟩ := h.rep i a _ ha e
  exact ⟨a, dx, gs, rfl, h1, h2, ha⟩
/-- e.f, of an object of the class at c -/
def tFldC (c : Addr) (t : TE) (f : Str) : TE := fun σ H Q => t σ H fun x H1 => ∃ a dx fs v, x = .ref a ∧ H1 a = some (.ins c dx fs) ∧ fs.lookup f = some v ∧ Q v H1
theorem pe_fldC {X : Cx} {c : Addr} {e : Expr} {f : Str} {pos : Pos} {t : TE} (cl : Cls X.K c) (n : NoAttr X.K c f) (he : PE X e t) (hb : attributeBase e f X.env (eval e X.env) = eval e X.env := by rfl) : PE X (.Attribute e f pos) (tFldC c t f) := by
  constructor
  intro pins s σ H Q J h
  refine attr_of hb (thn (he.run pins s σ H _ J h) ?_)
  rintro u s1 ⟨x, H1, J1, rx, a, dx, gs, v, rfl, ea, el, q⟩
  cases (show u = Value.ref a from rx)
  exact getattr_ok J1 ea cl n el fun u2 s2 J2 ru => ⟨v, H1, J2, ru, q⟩
def dFld (c : Addr) (f : Str) (e : TD) : TD := fun ρ C Q => e ρ C fun w C1 => match w with
  | .o i => match C1[i]? with
    | some (.ins c' fs) => c' = c ∧ match fs.lookup f with
      | some u => Q u C1
      | none => False
    | _ => False
  | _ => False
instance {c : Addr} {f : Str} {t : TE} {d : TD} [a : SimE K t d] : SimE K (tFldC c t f) (dFld c f d) := ⟨fun ρ C ad σ H Qd Q hR sR h k => a.run ρ C ad σ H _ _ hR sR h fun w C1 v H1 ad1 q1 hR1 g1 r1 => by
  split at q1
  · split at q1
    · rename_i i c' fs hc
      obtain ⟨rfl, q1⟩ := q1
      obtain ⟨p, dx, gs, rfl, h1, h2, _⟩ := ins_of hR1 r1 hc
      split at q1
      · rename_i u hu
        obtain ⟨x, hx, rx⟩ := (prd_look h2 f).1 u hu
        exact ⟨p, dx, gs, x, rfl, h1, hx, k _ C1 _ H1 ad1 q1 hR1 g1 rx⟩
      · exact q1.elim
    · exact q1.elim
  · exact q1.elim⟩
/-- e.f = value -/
def sFldC (c : Addr) (t tv : TE) (f : Str) : TS := fun D σ H => tv σ H fun y H1 => t σ H1 fun x H2 => ∃ a dx fs, x = .ref a ∧ H2 a = some (.ins c dx fs) ∧ fs.length < 1000 ∧ D.nx σ (upd H2 a (.ins c dx (putF f y fs)))
theorem ps_fldC {X : Cx} {c : Addr} {o value : Expr} {f : Str} {pos pos' : Pos} {t tv : TE} (cl : Cls X.K c) (n : NoAttr X.K c f) (ho : PE X o t) (hv : PE X value tv) (hs : swapsWith value (some (.Attribute o f pos')) pos.line X.env = pure false := by rfl) : PS X (.Assign [.Attribute o f pos'] value pos) (sFldC c t tv f) := by
  constructor
  intro pins s σ H D J h
  refine plainObj_wpAny_Assign_Attribute (thn (hv.run pins s σ H _ J h) ?_) hs
  rintro u s1 ⟨y, H1, J1, ry, q⟩
  refine thn (ho.run pins s1 σ H1 _ J1 q) ?_
  rintro ov s2 ⟨x, H2, J2, rx, a, dx, fs, rfl, ea, el, q2⟩
  cases (show ov = Value.ref a from rx)
  exact setattr_ok J2 ea cl n el ry fun s3 J3 => ⟨σ, _, J3, q2⟩
def dFldS (c : Addr) (f : Str) (o e : TD) : TDS := fun D ρ C => e ρ C fun y C1 => o ρ C1 fun w C2 => match w with
  | .o i => match C2[i]? with
    | some (.ins c' fs) => c' = c ∧ fs.length < 1000 ∧ D.nx ρ (C2.set i (.ins c' (putW f y fs)))
    | _ => False
  | _ => False
theorem set_ins {ad : List Addr} {C : Cs} {H : Hp} {i : Nat} {a c dx : Addr} {fs fs' : List (Str × W)} {gs' : List (Str × V)} (hR : HeapR K ad C H) (ha : ad[i]? = some a) (hc : C[i]? = some (.ins c fs)) (r : Paired (fun p q => p.1 = q.1 ∧ RepW K (low ad C H) ad p.2 q.2) gs' fs') : HeapR K ad (C.set i (.ins c fs')) (upd H a (.ins c dx gs')) ∧ Grw ad C H ad (C.set i (.ins c fs')) (upd H a (.ins c dx gs')) :=
  hR.set ha hc (fun z => by cases z) (fun z => by cases z) ⟨dx, gs', upd_same, r⟩
instance {c : Addr} {f : Str} {t tv : TE} {d dv : TD} [a : SimE K t d] [b : SimE K tv dv] : SimS K (sFldC c t tv f) (dFldS c f d dv) := ⟨fun ρ C ad σ H DD D hR sR h k => b.run ρ C ad σ H _ _ hR sR h fun y C1 u H1 ad1 q1 hR1 g1 r1 => a.run ρ C1 ad1 σ H1 _ _ hR1 (sR.grw g1) q1 fun w C2 v H2 ad2 q2 hR2 g2 r2 => by
  split at q2
  · split at q2
    · rename_i i c' fs hc
      obtain ⟨rfl, q2, q3⟩ := q2
      obtain ⟨p, dx, gs, rfl, h1, h2, ha⟩ := ins_of hR2 r2 hc
      obtain ⟨hR3, g3⟩ := set_ins (dx := dx) hR2 ha hc (prd_put (f := f) (r1.grw g2) h2)
      exact ⟨p, dx, gs, rfl, h1, by rw [prd_len h2]; exact q2, k.nx _ _ _ _ ad2 q3 hR3 (g1.trans (g2.trans g3)) ((sR.grw (g1.trans g2)).grw g3)⟩
    · exact q2.elim
  · exact q2.elim⟩
/-- e.f += value -/
def sFldAugC (c : Addr) (t tv : TE) (rd : V → V → Hp → VK → Prop) (f : Str) : TS := fun D σ H => t σ H fun x H1 => ∃ a dx fs v, x = .ref a ∧ H1 a = some (.ins c dx fs) ∧ fs.lookup f = some v ∧
  tv σ H1 fun y H2 => rd v y H2 fun z H3 => ∃ dx' fs', H3 a = some (.ins c dx' fs') ∧ fs'.length < 1000 ∧ D.nx σ (upd H3 a (.ins c dx' (putF f z fs')))
theorem ps_fldaugC {X : Cx} {c : Addr} {o value : Expr} {f : Str} {pos tpos : Pos} {t tv : TE} {op : Operator} {rd : V → V → Hp → VK → Prop} (cl : Cls X.K c) (n : NoAttr X.K c f) (ho : PE X o t) (hv : PE X value tv) (hop : InOp X op rd) : PS X (.AugAssign (.Attribute o f tpos) op value pos) (sFldAugC c t tv rd f) := by
  constructor
  intro pins s σ H D J h
  refine wpAny_AugAssign_AttributeAny (thn (ho.run pins s σ H _ J h) ?_)
  rintro ov s1 ⟨x, H1, J1, rx, a, dx, fs, v, rfl, ea, l, q⟩
  cases (show ov = Value.ref a from rx)
  refine getattr_ok J1 ea cl n l fun u s2 J2 ru => thn (hv.run pins s2 σ H1 _ J2 q) ?_
  rintro w3 s3 ⟨y, H2, J3, ry, q3⟩
  refine thn (hop pins s3 σ H2 v y u w3 _ J3 ru ry q3) ?_
  rintro w4 s4 ⟨z, H3, J4, rz, dx', fs', ea', l', q4⟩
  exact setattr_ok J4 ea' cl n l' rz fun s5 J5 => ⟨σ, _, J5, q4⟩
/-- whole numbers alone -/
def dFldAug (c : Addr) (f : Str) (o e : TD) : TDS := fun D ρ C => o ρ C fun w C1 => match w with
  | .o i => match C1[i]? with
    | some (.ins c' fs) => c' = c ∧ match fs.lookup f with
      | some (.d (.int x)) => e ρ C1 fun y C2 => match y with
        | .d (.int z) => match C2[i]? with
          | some (.ins c2 fs2) => c2 = c ∧ fs2.length < 1000 ∧ D.nx ρ (C2.set i (.ins c2 (putW f (.d (.int (x + z))) fs2)))
          | _ => False
        | _ => False
      | _ => False
    | _ => False
  | _ => False
instance {c : Addr} {f : Str} {t tv : TE} {d dv : TD} [a : SimE K t d] [b : SimE K tv dv] : SimS K (sFldAugC c t tv rAdd f) (dFldAug c f d dv) := ⟨fun ρ C ad σ H DD D hR sR h k => a.run ρ C ad σ H _ _ hR sR h fun w C1 v H1 ad1 q1 hR1 g1 r1 => by
  split at q1
  · split at q1
    · rename_i i c' fs hc
      obtain ⟨rfl, q1⟩ := q1
      obtain ⟨p, dx, gs, rfl, h1, h2, ha⟩ := ins_of hR1 r1 hc
      split at q1
      · rename_i x hx
        obtain ⟨u, hu, ru⟩ := (prd_look h2 f).1 _ hx
        have eu := int_at ru
        subst eu
        refine ⟨p, dx, gs, _, rfl, h1, hu, b.run ρ C1 ad1 σ H1 _ _ hR1 (sR.grw g1) q1 fun y C2 t H2 ad2 q2 hR2 g2 r2 => ?_⟩
        split at q2
        · rename_i z
          have et := int_at r2
          subst et
          refine ⟨x, z, rfl, rfl, ?_⟩
          split at q2
          · rename_i c2 fs2 hc2
            obtain ⟨rfl, q2, q3⟩ := q2
            obtain ⟨p2, dx2, gs2, e2, h3, h4, ha2⟩ := ins_of hR2 (r1.grw g2) hc2
            cases e2
            obtain ⟨hR3, g3⟩ := set_ins (dx := dx2) hR2 ha2 hc2 (prd_put (f := f) (rw_int (i := x + z)) h4)
            exact ⟨dx2, gs2, h3, by rw [prd_len h4]; exact q2, k.nx _ _ _ _ ad2 q3 hR3 (g1.trans (g2.trans g3)) ((sR.grw (g1.trans g2)).grw g3)⟩
          · exact q2.elim
        · exact q2.elim
      · exact q1.elim
    · exact q1.elim
  · exact q1.elim⟩
/-- e.m(..) -/
def dMeth (c : Addr) (m : Str) (sp : SpD) (o : TD) (a : TDA) : TD := fun ρ C Q => o ρ C fun w C1 => match w with
  | .o i => match C1[i]? with
    | some (.ins c' fs) => c' = c ∧ fs.lookup m = none ∧ a ρ C1 fun ws C2 => sp (.o i :: ws) C2 Q X0
    | _ => False
  | _ => False
instance {c : Addr} {m : Str} {sp : SpD} {E : XK} {t : TE} {ta : TA} {d : TD} {da : TDA} [o : SimE K t d] [a : SimA K ta da] : SimE K (tMeth c m (lft K sp) [] E t ta) (dMeth c m sp d da) := ⟨fun ρ C ad σ H Qd Q hR sR h k => o.run ρ C ad σ H _ _ hR sR h fun w C1 v H1 ad1 q1 hR1 g1 r1 => by
  split at q1
  · split at q1
    · rename_i i c' fs hc
      obtain ⟨rfl, hm, q1⟩ := q1
      obtain ⟨p, dx, gs, rfl, h1, h2, ha⟩ := ins_of hR1 r1 hc
      refine ⟨p, dx, gs, rfl, h1, (prd_look h2 m).2 hm, a.run ρ C1 ad1 σ H1 _ _ hR1 (sR.grw g1) q1 fun ws C2 vs H2 ad2 q2 hR2 g2 r2 => ?_⟩
      exact ⟨_, C2, ad2, Qd, X0, hR2, .cons (r1.grw g2) (by rw [List.append_nil]; exact r2), q2, k.grw (g1.trans g2), contX0⟩
    · exact q1.elim
  · exact q1.elim⟩
/-- C(..) -/
def dMake (c : Addr) (sp : SpD) (a : TDA) : TD := fun ρ C Q => a ρ C fun ws C1 => sp (.o C1.length :: ws) (C1 ++ [.ins c []]) (fun w C2 => w = .d .non ∧ Q (.o C1.length) C2) X0
instance {c : Addr} {sp : SpD} {E : XK} {ta : TA} {da : TDA} [a : SimA K ta da] : SimE K (tMake c (lft K sp) [] E ta) (dMake c sp da) := ⟨fun ρ C ad σ H Qd Q hR sR h k => a.run ρ C ad σ H _ _ hR sR h fun ws C1 vs H1 ad1 q1 hR1 g1 r1 => by
  intro x dx nx nd ne
  have e1 : Same H1 (upd H1 dx (.own x)) := same_upd nd
  have nx1 : upd H1 dx (.own x) x = none := by rw [upd_ne (Ne.symm ne)]; exact nx
  obtain ⟨hR2, g2⟩ := (hR1.same e1).new (o := .ins c dx []) (c := .ins c []) nx1 (fun z => by cases z) ⟨dx, [], upd_same, .nil⟩
  have g12 := (grw_same (ad := ad1) (C := C1) e1).trans g2
  have rx : RepW K (low (ad1 ++ [x]) (C1 ++ [Cell.ins c []]) (upd (upd H1 dx (.own x)) x (.ins c dx []))) (ad1 ++ [x]) (.ref x) (.o C1.length) := ⟨x, by rw [← hR1.len]; exact List.getElem?_concat_length, rfl⟩
  refine ⟨_, _, _, (fun w C2 => w = .d .non ∧ Qd (.o C1.length) C2), X0, hR2, .cons rx (by rw [List.append_nil]; exact RepWs.grw r1 g12), q1, ?_, contX0⟩
  rintro w C3 v H3 ad3 ⟨rfl, q⟩ hR3 g3 rv
  refine ⟨non_at rv, k _ C3 _ H3 ad3 q hR3 (g1.trans (g12.trans g3)) ?_⟩
  exact rx.grw g3⟩
/-! ## a tuple of its own; one whose list is told whole from now on -/
def tTupO (t : TA) : TE := tTup t
theorem pe_tupO {X : Cx} {e : Expr} {t : TA} (h : PE X e (tTup t)) : PE X e (tTupO t) := h
def dTupO (a : TDA) : TD := fun ρ C Q => a ρ C fun ws C1 => ws.length ≤ 16777216 ∧ Q (.o C1.length) (C1 ++ [.tup ws])
instance {t : TA} {d : TDA} [a : SimA K t d] : SimE K (tTupO t) (dTupO d) := ⟨fun ρ C ad σ H Qd Q hR sR h k =>
  a.run ρ C ad σ H _ _ hR sR h fun ws C1 vs H1 ad1 q1 hR1 g1 r1 => ⟨by rw [prd_len r1, line_is]; exact q1.1, fun p np => by
    obtain ⟨h1, h2, h3⟩ := new_tup hR1 r1 np
    exact k _ _ _ _ _ q1.2 h1 (g1.trans h2) h3⟩⟩
def frz (s : Nat) (ds : List Dt) : List W → Option (List Dt)
  | [] => some []
  | .d x :: ws => (frz s ds ws).map (x :: ·)
  | .o i :: ws => if i = s then (frz s ds ws).map (Dt.lst ds :: ·) else none
theorem frz_at {ad : List Addr} {C : Cs} {H : Hp} {s : Nat} {ds : List Dt} (h : HeapR K ad C H) (hc : C[s]? = some (.lst (ds.map W.d))) : ∀ {ws : List W} {vs : List V} {es : List Dt}, frz s ds ws = some es → RepWs K (low ad C H) ad vs ws → RepWs K (low ad (C.set s .fz) H) ad vs (es.map W.d)
  | [], _, es, e, r => by cases e; cases r; exact .nil
  | .d x :: ws, _, es, e, r => by
    cases r with
    | cons r t =>
      unfold frz at e
      obtain ⟨es', e1, rfl⟩ := Option.map_eq_some_iff.mp e
      exact .cons (At.same low_fz _ _ r) (frz_at h hc e1 t)
  | .o i :: ws, _, es, e, r => by
    cases r with
    | cons r t =>
      unfold frz at e
      split at e
      · rename_i ei
        subst ei
        obtain ⟨es', e1, rfl⟩ := Option.map_eq_some_iff.mp e
        obtain ⟨a, ha, rfl⟩ := r
        exact .cons (fz_lst h ha hc) (frz_at h hc e1 t)
      · cases e
def tTupF (t : TA) : TE := tTup t
theorem pe_tupF {X : Cx} {e : Expr} {t : TA} (h : PE X e (tTup t)) : PE X e (tTupF t) := h
def dTupF (a : TDA) : TD := fun ρ C Q => a ρ C fun ws C1 => ws.length ≤ 16777216 ∧ ((∃ ds, allD ws = some ds ∧ Q (.d (.tup ds)) C1) ∨ ∃ s ds es, C1[s]? = some (.lst (ds.map W.d)) ∧ frz s ds ws = some es ∧ Q (.d (.tup es)) (C1.set s .fz))
instance {t : TA} {d : TDA} [a : SimA K t d] : SimE K (tTupF t) (dTupF d) := ⟨fun ρ C ad σ H Qd Q hR sR h k =>
  a.run ρ C ad σ H _ _ hR sR h fun ws C1 vs H1 ad1 q1 hR1 g1 r1 => ⟨by rw [prd_len r1, line_is]; exact q1.1, fun p np => by
    rcases q1.2 with ⟨ds, e, q⟩ | ⟨s, ds, es, hc, e, q⟩
    · rw [allD_of e] at r1
      exact k _ _ _ _ _ q (hR1.same (same_upd np)) (g1.trans (grw_same (same_upd np))) (put_tup hR1 np r1)
    · obtain ⟨hR2, g2⟩ := hR1.fz (i := s)
      exact k _ _ _ _ _ q (hR2.same (same_upd np)) (g1.trans (g2.trans (grw_same (same_upd np)))) (put_tup hR2 np (frz_at hR1 hc e r1))⟩⟩
end
end BK

namespace BK
open PySem PySem.Spec PyProof.Rows L2
section
variable {K : PySem.W.Frag}
/-! ## a tuple's slice -/
theorem q_slT (K : PySem.W.Frag) {X : Cx} (hK : X.K = K := by rfl) : SlR X (rSlA K) := hK ▸ sl_tupA
def cutD (ds : List Dt) (lo hi : Option Int) : List Dt := (ds.drop (HT.sIx ds.length 0 lo)).take (HT.sIx ds.length ds.length hi - HT.sIx ds.length 0 lo)
def dSlT : W → Option Int → Option Int → Cs → (W → Cs → Prop) → Prop := fun x lo hi C Q => match x with
  | .d (.tup ds) => Q (.d (.tup (cutD ds lo hi))) C
  | _ => False
instance : LowSl K (rSlA K) dSlT := ⟨fun x lo hi C ad v H Qd Q hR r h k => by
  unfold dSlT at h
  split at h
  · rename_i ds
    have r2 : At K _ v (.tup ds) := r
    unfold At at r2
    obtain ⟨p, xs, rfl, h1, h2⟩ := r2
    have h3 : SqT K H p xs := sameT (low_same _ _ _) h1
    have ln := h2.len
    refine ⟨p, xs, rfl, h3, fun e => ?_, fun _ a na => ?_⟩
    · have : cutD ds lo hi = ds := by
        unfold cutD
        rw [← ln, e.1, e.2, List.drop_zero, Nat.sub_zero, ln, List.take_length]
      rw [this] at h
      exact k _ C _ H ad h hR .refl r
    · have hr : RepWs K (low ad C H) ad (cutV xs lo hi) ((cutD ds lo hi).map W.d) := by
        unfold cutV cutD
        rw [ln, List.map_take, List.map_drop]
        exact prd_take2 (prd_drop2 (rep_ats h2) _) _
      exact k _ C _ _ ad h (hR.same (same_upd na)) (grw_same (same_upd na)) (put_tup hR na hr)
  · exact h.elim⟩
/-! ## the sum of a row -/
def rSumT (K : PySem.W.Frag) : List V → Hp → VK → Prop := fun vs H Q => ∃ (a : Addr) (ns : List Int), vs = [V.ref a] ∧ SqT K H a (ns.map V.int) ∧ Q (.int ns.sum) H
def rSumA (K : PySem.W.Frag) : List V → Hp → VK → Prop := fun vs H Q => rSum K vs H Q ∨ rSumT K vs H Q
theorem cr_sumT {X : Cx} (hc : X.calm = true) : CallR X (.builtin "sum") (rSumT X.K) := by
  intro pins s σ H vs us Q J r h
  obtain ⟨a, ns, rfl, hs, q⟩ := h
  obtain ⟨its, rv, ht, _⟩ := J.tuple hs
  rw [Vals.ref1 r]
  have hi : IntsAre its ns := rv.ints
  obtain ⟨xs, hx⟩ := hi.allInts.items
  have hn : PySem.numsOf its.toArray.toList = ns := by rw [show its.toArray.toList = its from rfl, hi.numsOf]
  have ht : s.heap.IsTuple a its.toArray := ht
  rw [hx] at ht hn
  rw [PySem.nums_intItems] at hn
  refine PySem.W.ktm_sumG (J.ok.hd hc) ht fun h' tk t' hk => ⟨.int ns.sum, H, J.kept hk, ⟨t', ?_⟩, q⟩
  rw [preSum_eq, List.take_of_length_le (by simp), hn]
theorem q_sumA (K : PySem.W.Frag) {X : Cx} (hc : X.calm = true) (hK : X.K = K := by rfl) : CallR X (.builtin "sum") (rSumA K) := by
  subst hK
  exact CallR.or (cr_sum hc) (cr_sumT hc)
def dSumA : List W → Cs → (W → Cs → Prop) → Prop := fun ws C Q => match ws with
  | [w] => match rowW C w with
    | some us => match selI us with
      | some ns => Q (.d (.int ns.sum)) C
      | none => False
    | none => False
  | _ => False
instance : LowA K (rSumA K) dSumA := ⟨fun ws C ad vs H Qd Q hR r h k => by
  unfold dSumA at h
  split at h
  · split at h
    · rename_i us e
      split at h
      · rename_i ns e2
        cases r with
        | cons r1 r2 =>
          cases r2
          obtain ⟨a, xs, rfl, hr, hx⟩ := row_of' hR r1 e
          rw [selI_of e2] at hx
          have := int_vs hx
          subst this
          rcases hr with hr | hr
          · exact .inl ⟨a, ns, rfl, hr, k _ C _ H ad h hR .refl rw_int⟩
          · exact .inr ⟨a, ns, rfl, hr, k _ C _ H ad h hR .refl rw_int⟩
      · exact h.elim
    · exact h.elim
  · exact h.elim⟩
/-! ## a < b, of things alike -/
def rLtD (K : PySem.W.Frag) : R2 := fun x y H Q => ∃ d e, Dp K H x d ∧ Dp K H y e ∧ PySem.W.alike d e = true ∧ d ≠ .none ∧ d.depth ≤ 60 ∧ Q (.bl (PySem.W.dataLt d e)) H
theorem q_ltD (K : PySem.W.Frag) {X : Cx} (hu : X.A.units + 64 < cLine) (hK : X.K = K := by rfl) : OpR X (compareOp .Lt) (rLtD K) := by
  subst hK
  intro pins s σ H x y v u Q J rx ry h
  obtain ⟨d, e, hd, he, al, nn, dp, q⟩ := h
  obtain ⟨as, r1⟩ := Dp.reads J d x v hd rx
  obtain ⟨bs, r2⟩ := Dp.reads J e y u he ry
  exact PySem.W.lt_data r1 r2 al nn (by have := Nat.min_le_left d.depth e.depth; omega) ⟨.bl _, H, J, rfl, q⟩
def dLtD : RD2 := fun x y C Q => ∃ a b, rds C x a ∧ rds C y b ∧ (Pln a = true ∧ Pln b = true ∧ deep a ≤ 60) ∧ PySem.W.alike a.py b.py = true ∧ a.py ≠ .none ∧ Q (.d (.bl (PySem.W.dataLt a.py b.py))) C
instance : Low2 K (rLtD K) dLtD := ⟨fun x y C ad v u H Qd Q hR rx ry h k => by
  obtain ⟨a, b, ha, hb, ⟨pa, pb, dp⟩, al, nn, q⟩ := h
  exact ⟨_, _, at_dp a v pa (rds_at hR a x v rx ha), at_dp b u pb (rds_at hR b y u ry hb), al, nn, by rw [depth_py]; exact dp, k _ C _ H ad q hR .refl rw_bl⟩⟩
end
end BK

namespace BK
open PySem PySem.Spec PyProof.Rows L2
section
variable {K : PySem.W.Frag}
/-- a written number if a test holds, else another one: told as one number -/
def tIfK (t : TT) (m n : Int) : TE := tIf t (tC (.int m)) (tC (.int n))
theorem pe_ifK {X : Cx} {c : Expr} {m n : Int} {j j' : Nat} {p p' pos : Pos} {t : TT} (h : PT X c t) : PE X (.IfExp c (.Constant (.int m) j p) (.Constant (.int n) j' p') pos) (tIfK t m n) := pe_ifExp h pe_int pe_int
def dIfK (d : TDT) (m n : Int) : TD := fun ρ C Q => d ρ C fun c C1 => Q (.d (.int (if c = true then m else n))) C1
instance {t : TT} {d : TDT} {m n : Int} [a : SimT K t d] : SimE K (tIfK t m n) (dIfK d m n) := ⟨fun ρ C ad σ H Qd Q hR sR h k => a.run ρ C ad σ H _ _ hR sR h fun c C1 H1 ad1 q1 hR1 g1 => by
  cases c with
  | true => exact k _ C1 _ H1 ad1 q1 hR1 g1 rw_int
  | false => exact k _ C1 _ H1 ad1 q1 hR1 g1 rw_int⟩
end
end BK

namespace BK
open PySem PySem.Spec PyProof.Rows L2
section
variable {K : PySem.W.Frag}
/-! ## sorted(xs), of things alike, any number of them -/
def leP (p q : V × PyData) : Bool := !PySem.W.dataLt q.2 p.2
def rSortD (K : PySem.W.Frag) : List V → Hp → VK → Prop := fun vs H Q => ∃ (a : Addr) (ps : List (V × PyData)), vs = [V.ref a] ∧ SqL K H a (ps.map Prod.fst) ∧ (∀ p ∈ ps, Dp K H p.1 p.2) ∧ (∀ p ∈ ps, ∀ q ∈ ps, PySem.W.alike p.2 q.2 = true) ∧ (∀ p ∈ ps, ∃ x r, p.2 = .tuple (x :: r)) ∧ (∀ p ∈ ps, p.2.depth ≤ 40) ∧
  ∀ (qs : List (V × PyData)) (z : Addr), qs.Perm ps → qs.Pairwise (fun p q => leP p q = true) → H z = none → Q (.ref z) (upd H z (.lst (qs.map Prod.fst)))
theorem each_reads {X : Cx} {pins : List (Addr × Obj)} {σ : L2.St} {H : Hp} {s : Shared} (J : L2.Inv X pins σ H s) : ∀ {ps : List (V × PyData)} {us : List Value}, Vals (ps.map Prod.fst) us → (∀ p ∈ ps, Dp X.K H p.1 p.2) → PySem.W.EachIs (fun u (p : V × PyData) => RelV p.1 u) us ps ∧ PySem.W.EachIs (fun u (p : V × PyData) => ∃ as, Reads s.heap u p.2 as) us ps
  | [], _, r, _ => by cases r; exact ⟨.nil, .nil⟩
  | p :: ps, us, r, h => by
    cases r with
    | cons r1 r2 =>
      obtain ⟨e1, e2⟩ := each_reads J r2 fun q hq => h q (List.mem_cons_of_mem _ hq)
      exact ⟨.cons r1 e1, .cons (Dp.reads J p.2 p.1 _ (h p (List.mem_cons_self ..)) r1) e2⟩
theorem each_vals : ∀ {us : List Value} {ps : List (V × PyData)}, PySem.W.EachIs (fun u (p : V × PyData) => RelV p.1 u) us ps → Vals (ps.map Prod.fst) us
  | _, _, .nil => .nil
  | _, _, .cons h t => .cons h (each_vals t)
theorem q_sortD (K : PySem.W.Frag) {X : Cx} (hu : X.A.units + 64 < cLine) (hK : X.K = K := by rfl) : CallR X (.builtin "sorted") (rSortD K) := by
  subst hK
  intro pins s σ H vs us Q J r h
  obtain ⟨a, ps, rfl, hs, hd, al, tp, dp, q⟩ := h
  obtain ⟨its, rv, hl, hz⟩ := J.list hs
  rw [Vals.ref1 r]
  obtain ⟨e1, e2⟩ := each_reads J rv hd
  have hz : ps.length ≤ sizeLine := by rw [List.length_map] at hz; exact hz
  refine PySem.W.sorted_data (enc := fun p : V × PyData => p.2) hl.isList e1 e2 (fun d h1 d' h2 => ?_) (.inl fun d h1 => ?_) hz (fun p hp => by have := dp p hp; omega) fun out hn ho => ?_
  · obtain ⟨p, hp, rfl⟩ := List.mem_map.mp h1
    obtain ⟨p', hp', rfl⟩ := List.mem_map.mp h2
    exact al p hp p' hp'
  · obtain ⟨p, hp, rfl⟩ := List.mem_map.mp h1
    exact tp p hp
  · have le : PySem.W.dataLe false (fun p : V × PyData => p.2) = leP := by rw [PySem.W.dataLe_eq]; rfl
    have tt : PySem.W.TotalLe (PySem.W.dataLe false fun p : V × PyData => p.2) := PySem.W.sortLe_total _ _ _
    have pw : (ps.mergeSort (PySem.W.dataLe false fun p : V × PyData => p.2)).Pairwise (fun p q => leP p q = true) := by
      rw [← le]
      exact List.pairwise_mergeSort (fun a b c h1 h2 => tt.trans a b c h1 h2) (fun a b => Bool.or_eq_true_iff.mpr (tt.total a b)) ps
    have pm := List.mergeSort_perm ps (PySem.W.dataLe false fun p : V × PyData => p.2)
    obtain ⟨ep, he'⟩ := PyProof.Rows.sortedAll_at s.heap its out.toArray
    have rv' := each_vals ho
    generalize ps.mergeSort (PySem.W.dataLe false fun p : V × PyData => p.2) = qs at pw pm rv'
    have hlen : (qs.map Prod.fst).length ≤ sizeLine := by rw [List.length_map, pm.length_eq]; exact hz
    exact ⟨.ref _, upd H (s.heap.objs.size + 1) (.lst (qs.map Prod.fst)), J.laid (t' := s.toks) (fun _ _ => PyProof.Rows.sortedAll_old) (Nat.le_succ _) ⟨hlen, out, ep, rv', he'⟩, rfl, q _ _ pm pw (J.hok.fresh (Nat.le_succ _))⟩
def dSortD : List W → Cs → (W → Cs → Prop) → Prop := fun ws C Q => ∃ w ds, ws = [w] ∧ lstW C w = some (ds.map W.d) ∧ (∀ d ∈ ds, Pln d = true ∧ deep d ≤ 40 ∧ ∃ x r, d.py = .tuple (x :: r)) ∧ (∀ d ∈ ds, ∀ e ∈ ds, PySem.W.alike d.py e.py = true) ∧
  ∀ es : List Dt, es.Perm ds → es.Pairwise (fun d e => PySem.W.dataLt e.py d.py = false) → Q (.d (.lst es)) C
theorem ats_zip {L : Hp} : ∀ {xs : List V} {ds : List Dt}, Ats K L xs ds → ∃ ps : List (V × Dt), xs = ps.map Prod.fst ∧ ds = ps.map Prod.snd ∧ ∀ p ∈ ps, At K L p.1 p.2
  | xs, [], h => by unfold Ats at h; subst h; exact ⟨[], rfl, rfl, fun p hp => (nomatch hp)⟩
  | xs, d :: ds, h => by
    unfold Ats at h
    obtain ⟨v, us, rfl, h1, h2⟩ := h
    obtain ⟨ps, e1, e2, k⟩ := ats_zip h2
    refine ⟨(v, d) :: ps, by rw [e1]; rfl, by rw [e2]; rfl, fun p hp => ?_⟩
    rcases List.mem_cons.mp hp with rfl | hp
    · exact h1
    · exact k p hp
theorem zip_ats {L : Hp} : ∀ {ps : List (V × Dt)}, (∀ p ∈ ps, At K L p.1 p.2) → Ats K L (ps.map Prod.fst) (ps.map Prod.snd)
  | [], _ => by unfold Ats; rfl
  | p :: ps, h => by
    show Ats K L (p.1 :: ps.map Prod.fst) (p.2 :: ps.map Prod.snd)
    unfold Ats
    exact ⟨_, _, rfl, h p (List.mem_cons_self ..), zip_ats fun q hq => h q (List.mem_cons_of_mem _ hq)⟩
theorem perm_lift {α β : Type} {f : α → β} : ∀ {qs : List β} {ps : List α}, qs.Perm (ps.map f) → ∃ rs : List α, rs.Perm ps ∧ qs = rs.map f := by
  intro qs ps h
  generalize hm : ps.map f = ms at h
  induction h generalizing ps with
  | nil =>
    have : ps = [] := List.map_eq_nil_iff.mp hm
    subst this
    exact ⟨[], .refl _, rfl⟩
  | cons x h ih =>
    cases ps with
    | nil => cases hm
    | cons p ps =>
      rw [List.map_cons] at hm
      injection hm with e1 e2
      obtain ⟨rs, h1, h2⟩ := ih e2
      exact ⟨p :: rs, h1.cons p, by rw [List.map_cons, e1, h2]⟩
  | swap x y l =>
    match ps, hm with
    | a :: b :: ps, hm =>
      rw [List.map_cons, List.map_cons] at hm
      injection hm with e1 e2
      injection e2 with e2 e3
      exact ⟨b :: a :: ps, .swap a b ps, by rw [List.map_cons, List.map_cons, e1, e2, e3]⟩
  | trans h1 h2 ih1 ih2 =>
    obtain ⟨rs, k1, k2⟩ := ih2 hm
    obtain ⟨ts, k3, k4⟩ := ih1 k2.symm
    exact ⟨ts, k3.trans k1, k4⟩
instance : LowA K (rSortD K) dSortD := ⟨fun ws C ad vs H Qd Q hR r h k => by
  obtain ⟨w, ds, rfl, e, hd, al, q⟩ := h
  cases r with
  | cons r1 r2 =>
    cases r2
    obtain ⟨a, xs, rfl, h1, rx, _⟩ := lst_of hR r1 e
    obtain ⟨ps, rfl, rfl, hp⟩ := ats_zip (ats_of rx)
    have mem : ∀ {t : V × PyData}, t ∈ ps.map (fun p => (p.1, p.2.py)) → ∃ p ∈ ps, t = (p.1, p.2.py) := fun h => by
      obtain ⟨p, h1, h2⟩ := List.mem_map.mp h
      exact ⟨p, h1, h2.symm⟩
    have hs : ∀ p ∈ ps, p.2 ∈ ps.map Prod.snd := fun p hp => List.mem_map.mpr ⟨p, hp, rfl⟩
    refine ⟨a, ps.map (fun p => (p.1, p.2.py)), rfl, by rw [List.map_map]; exact h1, fun t ht => ?_, fun t ht t' ht' => ?_, fun t ht => ?_, fun t ht => ?_, fun qs z pm pw nz => ?_⟩
    · obtain ⟨p, h1, rfl⟩ := mem ht
      exact at_dp p.2 p.1 (hd _ (hs p h1)).1 (At.same (low_same _ _ _) _ _ (hp p h1))
    · obtain ⟨p, h1, rfl⟩ := mem ht
      obtain ⟨p', h2, rfl⟩ := mem ht'
      exact al _ (hs p h1) _ (hs p' h2)
    · obtain ⟨p, h1, rfl⟩ := mem ht
      exact (hd _ (hs p h1)).2.2
    · obtain ⟨p, h1, rfl⟩ := mem ht
      show p.2.py.depth ≤ 40
      rw [depth_py]
      exact (hd _ (hs p h1)).2.1
    · obtain ⟨rs, p1, rfl⟩ := perm_lift pm
      rw [List.map_map]
      have q' := q (rs.map Prod.snd) (p1.map _) (by
        rw [List.pairwise_map] at pw ⊢
        exact pw.imp fun h => by
          show PySem.W.dataLt _ _ = false
          exact Bool.not_eq_true' _ ▸ h)
      refine k _ C _ _ ad q' (hR.same (same_upd nz)) (grw_same (same_upd nz)) ?_
      exact put_lst hR nz (rep_ats (zip_ats fun p hp' => hp p (p1.mem_iff.mp hp')))⟩
end
end BK

namespace BK
open PySem PySem.Spec PyProof.Rows L2
section
variable {K : PySem.W.Frag}
/-! ## a module's dict of numbers, asked -/
theorem dti_none (z : Str) : ∀ (es : List DictEntry) (ps : List (Str × Int)), es.map dti = ps.map some → ps.lookup z = none → es.find? (·.key.isStr z) = none ∧ es.any (·.refKey) = false
  | [], [], _, _ => ⟨rfl, rfl⟩
  | [], _ :: _, h, _ => by cases h
  | _ :: _, [], h, _ => by cases h
  | e :: es, p :: ps, h, hy => by
    obtain ⟨h1, h2⟩ := List.cons.inj h
    obtain ⟨a, b⟩ := p
    unfold dti at h1
    split at h1
    · rename_i x t y' t2 k1 k2
      obtain ⟨rfl, rfl⟩ := Prod.mk.inj (Option.some.inj h1)
      have hk : e.key.isStr z = (x == z) := by rw [k1]; rfl
      have hr : e.refKey = false := by unfold DictEntry.refKey; rw [k1]
      by_cases hz : z = x
      · subst hz
        rw [List.lookup_cons_self] at hy
        cases hy
      · have hb : (z == x) = false := beq_eq_false_iff_ne.mpr hz
        have hb2 : (x == z) = false := beq_eq_false_iff_ne.mpr fun q => hz q.symm
        rw [List.lookup_cons, hb] at hy
        obtain ⟨i1, i2⟩ := dti_none z es ps h2 hy
        rw [List.find?_cons, hk, hb2, List.any_cons, hr]
        exact ⟨i1, i2⟩
    · cases h1
theorem IDict.none {w : World} {mg : Str → Option Value} {x : Str} {ps : List (Str × Int)} (D : IDict K w mg x ps) {z : Str} (h : ps.lookup z = .none) : PySem.W.nsIn K D.d z = some .none := by
  obtain ⟨h1, h2⟩ := dti_none z _ _ D.e h
  unfold PySem.W.nsIn
  rw [D.k.at_]
  dsimp only
  rw [h1]
  dsimp only
  rw [h2]
  rfl
theorem IDict.some {w : World} {mg : Str → Option Value} {x : Str} {ps : List (Str × Int)} (D : IDict K w mg x ps) {z : Str} {y : Int} (h : ps.lookup z = .some y) : ∃ t, PySem.W.nsIn K D.d z = some (.some (.int y t)) := by
  obtain ⟨e, t, h1, h2⟩ := dti_find z y _ _ D.e h
  refine ⟨t, ?_⟩
  unfold PySem.W.nsIn
  rw [D.k.at_]
  dsimp only
  rw [h1]
  dsimp only
  rw [h2]
def rInID (d : Addr) (ps : List (Str × Int)) : R2 := fun a b H Q => ∃ z : Str, a = .str z ∧ b = .ref d ∧ Q (.bl (ps.lookup z).isSome) H
theorem q_inID {X : Cx} {x : Str} {ps : List (Str × Int)} (D : IDict X.K X.w X.mg x ps) : OpR X (compareOp .In) (rInID D.d ps) := by
  intro pn sh σ G a b v u Q J ra rb h
  obtain ⟨z, e1, e2, q⟩ := h
  cases hl : ps.lookup z with
  | none =>
    rw [hl] at q
    exact op_in_kd D.k pn sh σ G a b v u Q J ra rb ⟨z, .none, e1, e2, D.none hl, q⟩
  | some y =>
    rw [hl] at q
    obtain ⟨t, e⟩ := D.some hl
    exact op_in_kd D.k pn sh σ G a b v u Q J ra rb ⟨z, _, e1, e2, e, q⟩
def inI (ps : List (Str × Int)) (z : List Nat) : Bool := (ps.lookup (tx z)).isSome
def dInID (ps : List (Str × Int)) (e : TD) : TD := fun ρ C Q => e ρ C fun w C1 => match w with
  | .d (.str z) => Q (.d (.bl (inI ps z))) C1
  | _ => False
instance {d : Addr} {ps : List (Str × Int)} {t : TE} {e : TD} [a : SimE K t e] : SimE K (tOp (rInID d ps) t (tC (.ref d))) (dInID ps e) := ⟨fun ρ C ad σ H Qd Q hR sR h k => a.run ρ C ad σ H _ _ hR sR h fun w C1 v H1 ad1 q1 hR1 g1 r1 => by
  split at q1
  · rename_i z
    exact ⟨tx z, (str_at r1).1, rfl, k _ C1 _ H1 ad1 q1 hR1 g1 rw_bl⟩
  · exact q1.elim⟩
def rIxID (d : Addr) (ps : List (Str × Int)) : R2 := fun a b H Q => ∃ (z : Str) (y : Int), a = .ref d ∧ b = .str z ∧ ps.lookup z = some y ∧ Q (.int y) H
theorem q_ixID {X : Cx} {x : Str} {ps : List (Str × Int)} (D : IDict X.K X.w X.mg x ps) : IxR X (rIxID D.d ps) := by
  intro ve sl pn sh σ G a b v u Q J ra rb h e
  obtain ⟨z, y, e1, e2, hl, q⟩ := h
  exact ix_kdict ve sl pn sh σ G a b v u Q J ra rb ⟨D.d, z, _, e1, e2, D.at hl, q⟩ e
def dIxID (ps : List (Str × Int)) (e : TD) : TD := fun ρ C Q => e ρ C fun w C1 => match w with
  | .d (.str z) => match ps.lookup (tx z) with
    | some y => Q (.d (.int y)) C1
    | none => False
  | _ => False
instance {d : Addr} {ps : List (Str × Int)} {t : TE} {e : TD} [a : SimE K t e] : SimE K (tOp (rIxID d ps) (tC (.ref d)) t) (dIxID ps e) := ⟨fun ρ C ad σ H Qd Q hR sR h k => a.run ρ C ad σ H _ _ hR sR h fun w C1 v H1 ad1 q1 hR1 g1 r1 => by
  split at q1
  · rename_i z
    split at q1
    · rename_i y hy
      exact ⟨tx z, y, rfl, (str_at r1).1, hy, k _ C1 _ H1 ad1 q1 hR1 g1 rw_int⟩
    · exact q1.elim
  · exact q1.elim⟩
/-! ## xs.count(x) of flat things -/
end
def rCntL (K : PySem.W.Frag) : V → List V → Hp → VK → Prop := fun x xs H Q => ∃ (a : Addr) (ys : List V) (y : V), x = V.ref a ∧ xs = [y] ∧ SqL K H a ys ∧ flatV y = true ∧ ys.all flatV = true ∧ Q (.int ((ys.countP fun z => eqV z y : Nat) : Int)) H
theorem countP_valsL {y : V} : ∀ {ys : List V} {its : List Value}, Vals ys its → ys.all flatV = true → its.countP (eqU y) = ys.countP fun z => eqV z y
  | [], _, .nil, _ => rfl
  | z :: ys, u :: us, .cons r t, f => by
    rw [List.all_cons, Bool.and_eq_true] at f
    rw [List.countP_cons, List.countP_cons, countP_valsL t f.2, eqU_of r f.1]
theorem mt_countL (K : PySem.W.Frag) {X : Cx} (hK : X.K = K := by rfl) : MtR X "list.count" (rCntL K) := by
  subst hK
  intro pins s σ H x xs v us Q I rx rxs h
  obtain ⟨a, ys, y, rfl, rfl, hs, fy, fys, q⟩ := h
  cases rx
  cases rxs with
  | cons ry rt =>
    rename_i uy ut
    cases rt
    obtain ⟨its, rv, ⟨⟨cls, dd, data, sl⟩, n, ho, hc, hdn, hd⟩, hlen⟩ := I.list hs
    simp only at hc hd
    subst hc hd
    refine call_meets PySem.F.slot_list_count ⟨_, ho, rfl⟩ PySem.F.entry_list_count (PySem.F.args_list_count_2 _ _) (SeqAt.list_countAt a its.toArray n dd sl uy (eqU y)) ⟨ho, fun u' hu' => mem_eqAt ry fy rv fys u' (by simpa using hu'), ?_⟩
    refine ⟨.int _, H, I.tok _, ⟨s.toks, ?_⟩, q⟩
    show Value.int ((its.toArray.toList.countP (eqU y) : Nat) : Int) s.toks = _
    rw [List.toList_toArray, countP_valsL rv fys]
section
variable {K : PySem.W.Frag}
def dCntL : W → List W → Cs → (W → Cs → Prop) → Prop := fun x ws C Q => match ws, lstW C x with
  | [.d a], some ys => match toV a, toVs ys with
    | some v, some us => Q (.d (.int ((us.countP fun z => eqV z v : Nat) : Int))) C
    | _, _ => False
  | _, _ => False
instance : LowM K (rCntL K) dCntL := ⟨fun x ws C ad v vs H Qd Q hR rx r h k => by
  unfold dCntL at h
  split at h
  · rename_i a ys e
    split at h
    · rename_i z us e1 e2
      obtain ⟨p, xs, rfl, hs, hx, _⟩ := lst_of hR rx e
      cases r with
      | cons r1 r2 =>
        cases r2
        obtain ⟨h1, h2⟩ := toV_at r1 e1
        obtain ⟨h3, h4⟩ := toVs_at hx e2
        subst h1 h3
        exact ⟨p, _, _, rfl, rfl, hs, h2, h4, k _ C _ H ad h hR .refl rw_int⟩
    · exact h.elim
  · exact h.elim⟩
/-! ## abs -/
def rAbs : List V → Hp → VK → Prop := fun xs H Q => ∃ i : Int, xs = [V.int i] ∧ Q (.int (if i < 0 then -i else i)) H
theorem q_abs {X : Cx} : CallR X (.builtin "abs") rAbs := call_abs
def dAbs : List W → Cs → (W → Cs → Prop) → Prop := fun ws C Q => match ws with
  | [.d (.int i)] => Q (.d (.int (if i < 0 then -i else i))) C
  | _ => False
instance : LowA K rAbs dAbs := ⟨fun ws C ad vs H Qd Q hR r h k => by
  unfold dAbs at h
  split at h
  · rename_i i
    cases r with
    | cons r1 r2 =>
      cases r2
      have e := int_at r1
      subst e
      exact ⟨i, rfl, k _ C _ H ad h hR .refl rw_int⟩
  · exact h.elim⟩
/-! ## a text so many times -/
def dMulS : RD2 := fun x y C Q => match x, y with
  | .d (.str z), .d (.int n) => ∃ m : Nat, n = m ∧ m ≤ 1000 ∧ z.length ≤ 100 ∧ Q (.d (.str (List.replicate m z).flatten)) C
  | _, _ => False
instance : Low2 K rMulS dMulS := ⟨fun x y C ad v u H Qd Q hR rx ry h k => by
  unfold dMulS at h
  split at h
  · rename_i z n
    obtain ⟨m, rfl, hm, hz, q⟩ := h
    have e := int_at ry
    subst e
    have e := (str_at rx).1
    subst e
    refine ⟨tx z, m, rfl, rfl, mul_ok (n := m) 100 1000 hz hm (by decide) (by decide), ?_⟩
    rw [mul_tx]
    refine k _ C _ H ad q hR .refl (rw_str ?_)
    rw [List.length_flatten, List.map_replicate, List.sum_replicate_nat]
    exact Nat.le_trans (Nat.mul_le_mul hm hz) (by decide)
  · exact h.elim⟩
/-! ## isinstance(x, (list, tuple)) of a thing -/
theorem q_isiT (K : PySem.W.Frag) {X : Cx} (hK : X.K = K := by rfl) : CallR X (.builtin "isinstance") (rIsiT K) := hK ▸ call_isiT
def dIsiR (e : TD) : TD := fun ρ C Q => e ρ C fun w C1 => match w with
  | .d x => Q (.d (.bl (isRow x))) C1
  | _ => False
instance {t : TE} {d : TD} [a : SimE K t d] : SimE K (tCB (rIsiT K) (tCons t (tCons (tTup (tCons (tC (.ty "list")) (tCons (tC (.ty "tuple")) tNil))) tNil))) (dIsiR d) := ⟨fun ρ C ad σ H Qd Q hR sR h k => a.run ρ C ad σ H _ _ hR sR h fun w C1 v H1 ad1 q1 hR1 g1 r1 => by
  split at q1
  · rename_i x
    refine ⟨(by show 2 ≤ sizeLine; decide), fun p np => ?_⟩
    have sp := same_upd (o := HO.tup [.ty "list", .ty "tuple"]) np
    exact isi_row (At.same sp _ _ r1.dAt) upd_same (k _ C1 _ _ ad1 q1 (hR1.same sp) (g1.trans (grw_same sp)) rw_bl)
  · exact q1.elim⟩
end
end BK

namespace BK
open PySem PySem.Spec PyProof.Rows L2
section
variable {K : PySem.W.Frag}
/-! ## x not in row, deep -/
theorem q_notInD (K : PySem.W.Frag) {X : Cx} (hu : X.A.units + 65 < cLine) (hK : X.K = K := by rfl) : OpR X (compareOp .NotIn) (rNotInD K) := hK ▸ op_notInD hu
def dNotInD : RD2 := fun x y C Q => ∃ a ds, rds C x a ∧ rds C y (.lst ds) ∧ (Pln a = true ∧ deep a ≤ 64 ∧ Plns ds = true ∧ deep (.lst ds) ≤ 64) ∧ ∀ c : Bool, (c = true ↔ a ∉ ds) → Q (.d (.bl c)) C
instance : Low2 K (rNotInD K) dNotInD := ⟨fun x y C ad v u H Qd Q hR rx ry h k => by
  obtain ⟨a, ds, ha, hb, ⟨h1, h2, h3, h4⟩, q⟩ := h
  have at2 := at_dp (.lst ds) u (by unfold Pln; exact h3) (rds_at hR (.lst ds) y u ry hb)
  have sh2 := pln_shaped (d := .lst ds) (by unfold Pln; exact h3) h4
  simp only [Dt.py] at at2 sh2
  exact ⟨a.py, pyAll ds, at_dp a v h1 (rds_at hR a x v rx ha), at2, pln_shaped h1 h2, sh2, k _ C _ H ad (q _ (by have := eqvs_any a h1 ds h3; rw [← this]; simp)) hR .refl rw_bl⟩⟩
/-! ## list.index, of small things -/
theorem q_indexL (K : PySem.W.Frag) {X : Cx} (hK : X.K = K := by rfl) : MtR X "list.index" (rIndex K) := hK ▸ mt_index
def dIndexL : W → List W → Cs → (W → Cs → Prop) → Prop := fun x ws C Q => match ws, lstW C x with
  | [.d a], some ys => match toV a, toVs ys with
    | some v, some us => ∃ (j : Nat) (z : V), us[j]? = some z ∧ eqV z v = true ∧ (∀ (m : Nat) (z' : V), m < j → us[m]? = some z' → eqV z' v = false) ∧ Q (.d (.int (j : Nat))) C
    | _, _ => False
  | _, _ => False
instance : LowM K (rIndex K) dIndexL := ⟨fun x ws C ad v vs H Qd Q hR rx r h k => by
  unfold dIndexL at h
  split at h
  · rename_i a ys e
    split at h
    · rename_i z us e1 e2
      obtain ⟨p, xs, rfl, hs, hx, _⟩ := lst_of hR rx e
      cases r with
      | cons r1 r2 =>
        cases r2
        obtain ⟨h1, h2⟩ := toV_at r1 e1
        obtain ⟨h3, h4⟩ := toVs_at hx e2
        subst h1 h3
        obtain ⟨j, y, i1, i2, i3, q⟩ := h
        exact ⟨p, _, _, j, y, rfl, rfl, hs, h2, h4, i1, i2, i3, k _ C _ H ad q hR .refl rw_int⟩
    · exact h.elim
  · exact h.elim⟩
/-! ## sorted(xs), of whole numbers, any number of them -/
def rSortN (K : PySem.W.Frag) : List V → Hp → VK → Prop := fun vs H Q => ∃ (a : Addr) (ns : List Int), vs = [V.ref a] ∧ SqL K H a (ns.map V.int) ∧ 
  ∀ (ns' : List Int) (p : Addr), ns'.Perm ns → ns'.Pairwise (· ≤ ·) → H p = none → Q (.ref p) (upd H p (.lst (ns'.map V.int)))
theorem q_sortN (K : PySem.W.Frag) {X : Cx} (hK : X.K = K := by rfl) : CallR X (.builtin "sorted") (rSortN K) := by
  subst hK
  intro pins s σ H vs us Q I r h
  obtain ⟨a, ns, rfl, hs, q⟩ := h
  obtain ⟨its, rv, hl, hz⟩ := I.list hs
  rw [Vals.ref1 r]
  have hi := rv.ints
  rw [List.length_map] at hz
  refine PyProof.Rows.sorted_intsAny hl.isList hi (by rw [hi.length]; exact hz) fun out ns' h1 h2 h3 => ?_
  obtain ⟨ep, he'⟩ := PyProof.Rows.sortedAll_at s.heap its out
  have hlen : (ns'.map V.int).length ≤ sizeLine := by rw [List.length_map, h2.length_eq]; exact hz
  exact ⟨.ref _, upd H (s.heap.objs.size + 1) (.lst (ns'.map V.int)), I.laid (t' := s.toks) (fun _ _ => PyProof.Rows.sortedAll_old) (Nat.le_succ _) ⟨hlen, out.toList, ep, vals_of_ints h1, he'⟩, rfl, q ns' _ h2 h3 (I.hok.fresh (Nat.le_succ _))⟩
def intT (l : List Int) : List W := (l.map Dt.int).map W.d
theorem ats_ints {L : Hp} : ∀ (l : List Int), Ats K L (l.map V.int) (l.map Dt.int)
  | [] => by unfold Ats; rfl
  | i :: l => by
    show Ats K L (V.int i :: l.map V.int) (Dt.int i :: l.map Dt.int)
    unfold Ats
    exact ⟨_, _, rfl, by unfold At; rfl, ats_ints l⟩
theorem ints_ats {L : Hp} : ∀ {l : List Int} {xs : List V}, Ats K L xs (l.map Dt.int) → xs = l.map V.int
  | [], xs, h => by
    simp only [List.map_nil] at h
    unfold Ats at h
    exact h
  | i :: l, xs, h => by
    simp only [List.map_cons] at h
    unfold Ats at h
    obtain ⟨v, us, rfl, h1, h2⟩ := h
    unfold At at h1
    rw [h1, ints_ats h2, List.map_cons]
def dSortN : List W → Cs → (W → Cs → Prop) → Prop := fun ws C Q => ∃ w ns, ws = [w] ∧ lstW C w = some (intT ns) ∧ ∀ ns' : List Int, ns'.Perm ns → ns'.Pairwise (· ≤ ·) → Q (.d (.lst (ns'.map Dt.int))) C
instance : LowA K (rSortN K) dSortN := ⟨fun ws C ad vs H Qd Q hR r h k => by
  obtain ⟨w, ns, rfl, e, q⟩ := h
  cases r with
  | cons r1 r2 =>
    cases r2
    obtain ⟨a, xs, rfl, h1, rx, _⟩ := lst_of hR r1 e
    have := ints_ats (ats_of rx)
    subst this
    refine ⟨a, ns, rfl, h1, fun ns' z pm pw nz => ?_⟩
    exact k _ C _ _ ad (q ns' pm pw) (hR.same (same_upd nz)) (grw_same (same_upd nz)) (put_lst hR nz (rep_ats (ats_ints ns')))⟩
/-! ## a dict that is written out, and asked -/
def keyD : Dt → Option Key
  | .int i => some (.inl i)
  | .str u => some (.inr (tx u))
  | _ => none
def valW (kvs : List (Key × W)) (k : Key) : Option W := (kvs.find? fun kv => decide (kv.1 = k)).map (·.2)
def putKW (kvs : List (Key × W)) (k : Key) (v : W) : List (Key × W) :=
  if (kvs.any fun kv => decide (kv.1 = k)) = true then kvs.map (fun kv => if kv.1 = k then (kv.1, v) else kv) else kvs ++ [(k, v)]
def mergeKW (kvs more : List (Key × W)) : List (Key × W) := more.foldl (fun acc kv => putKW acc kv.1 kv.2) kvs
section
variable {L : Hp} {ad : List Addr}
abbrev PK (K : PySem.W.Frag) (L : Hp) (ad : List Addr) : List (Key × V) → List (Key × W) → Prop := Paired fun p q => p.1 = q.1 ∧ RepW K L ad p.2 q.2
theorem PK.any {ks : List (Key × V)} {kvs : List (Key × W)} (h : PK K L ad ks kvs) (k : Key) : (ks.any fun kv => decide (kv.1 = k)) = (kvs.any fun kv => decide (kv.1 = k)) := by
  unfold PK at h
  induction h with
  | nil => rfl
  | cons r t ih => rw [List.any_cons, List.any_cons, ih, r.1]
theorem PK.put {ks : List (Key × V)} {kvs : List (Key × W)} (h : PK K L ad ks kvs) (k : Key) {v : V} {w : W} (r : RepW K L ad v w) : PK K L ad (putK ks k v) (putKW kvs k w) := by
  unfold putK putKW
  rw [h.any k]
  split
  · rename_i hh
    clear hh
    unfold PK at h ⊢
    induction h with
    | nil => exact .nil
    | @cons p q ps qs r0 t ih =>
      rw [List.map_cons, List.map_cons]
      refine .cons ?_ (ih)
      by_cases e : p.1 = k
      · rw [if_pos e, if_pos (r0.1 ▸ e)]
        exact ⟨r0.1, r⟩
      · rw [if_neg e, if_neg (fun z => e (r0.1.trans z))]
        exact r0
  · exact prd_app2 h (.cons ⟨rfl, r⟩ .nil)
theorem PK.merge : ∀ {more : List (Key × V)} {moreW : List (Key × W)} {ks : List (Key × V)} {kvs : List (Key × W)}, PK K L ad more moreW → PK K L ad ks kvs → PK K L ad (mergeK ks more) (mergeKW kvs moreW) := by
  intro more moreW ks kvs r
  unfold PK at r
  induction r generalizing ks kvs with
  | nil => intro q; exact q
  | @cons p q ps qs h t ih =>
    intro r0
    have e : PK K L ad (putK ks p.1 p.2) (putKW kvs q.1 q.2) := by
      have := r0.put q.1 h.2
      rw [← h.1] at this ⊢
      exact this
    exact ih e
theorem PK.val {ks : List (Key × V)} {kvs : List (Key × W)} (h : PK K L ad ks kvs) (k : Key) : (∀ w, valW kvs k = some w → ∃ v, valV ks k = some v ∧ RepW K L ad v w) ∧ (valW kvs k = none → valV ks k = none) := by
  unfold PK at h
  induction h with
  | nil => exact ⟨fun w e => (by cases e), fun _ => rfl⟩
  | @cons p q ps qs r t ih =>
    unfold valW valV at ih ⊢
    by_cases e : q.1 = k
    · rw [List.find?_cons_of_pos (by exact decide_eq_true e), List.find?_cons_of_pos (by exact decide_eq_true (r.1.trans e))]
      exact ⟨fun w e => (by cases e; exact ⟨_, rfl, r.2⟩), fun e => (by cases e)⟩
    · rw [List.find?_cons_of_neg (by simpa using e), List.find?_cons_of_neg (by simpa using fun z => e (r.1.symm.trans z))]
      exact ih
end
theorem key_at {L : Hp} {ad : List Addr} {v : V} {d : Dt} {k : Key} (r : RepW K L ad v (.d d)) (e : keyD d = some k) : v = kV k := by
  have r : At K L v d := r
  cases d <;> first | (cases e; done) | skip
  all_goals
    unfold At at r
    cases e
  · exact r
  · exact r.1
def keysW : List (W × W) → Option (List (Key × W))
  | [] => some []
  | (.d d, w) :: r => match keyD d, keysW r with
    | some k, some ks => some ((k, w) :: ks)
    | _, _ => none
  | _ :: _ => none
def dPairs : List (TD × TD) → Ws → Cs → (List (W × W) → Cs → Prop) → Prop
  | [], _, C, Q => Q [] C
  | (tk, tv) :: r, ρ, C, Q => tk ρ C fun x C1 => tv ρ C1 fun y C2 => dPairs r ρ C2 fun ps C3 => Q ((x, y) :: ps) C3
def dDisp (ds : List (TD × TD)) : TD := fun ρ C Q => dPairs ds ρ (C ++ [.dK []]) fun ps C2 => C2[C.length]? = some (.dK []) ∧ ∃ kvs, keysW ps = some kvs ∧ kvs.length ≤ 15 ∧ Q (.o C.length) (C2.set C.length (.dK (mergeKW [] kvs)))
class SimPs (K : PySem.W.Frag) (ts : List (TE × TE)) (ds : outParam (List (TD × TD))) : Prop where
  run : ∀ ρ C ad σ H (Qd : List (W × W) → Cs → Prop) (Q : List (V × V) → Hp → Prop), HeapR K ad C H → SlotR K (low ad C H) ad σ ρ → dPairs ds ρ C Qd →
    (∀ ps C' vs H' ad', Qd ps C' → HeapR K ad' C' H' → Grw ad C H ad' C' H' → Paired (fun p q => RepW K (low ad' C' H') ad' p.1 q.1 ∧ RepW K (low ad' C' H') ad' p.2 q.2) vs ps → Q vs H') → tPairs ts σ H Q
instance : SimPs K [] [] := ⟨fun ρ C ad σ H Qd Q hR sR h k => k [] C [] H ad h hR .refl .nil⟩
instance {t u : TE} {d e : TD} {ts : List (TE × TE)} {ds : List (TD × TD)} [a : SimE K t d] [b : SimE K u e] [c : SimPs K ts ds] : SimPs K ((t, u) :: ts) ((d, e) :: ds) := ⟨fun ρ C ad σ H Qd Q hR sR h k =>
  a.run ρ C ad σ H _ _ hR sR h fun x C1 v H1 ad1 q1 hR1 g1 r1 => b.run ρ C1 ad1 σ H1 _ _ hR1 (sR.grw g1) q1 fun y C2 w H2 ad2 q2 hR2 g2 r2 =>
    c.run ρ C2 ad2 σ H2 _ _ hR2 ((sR.grw g1).grw g2) q2 fun ps C3 vs H3 ad3 q3 hR3 g3 r3 => k _ C3 _ H3 ad3 q3 hR3 ((g1.trans g2).trans g3) (.cons ⟨(r1.grw g2).grw g3, r2.grw g3⟩ r3)⟩
theorem keysW_of {L : Hp} {ad : List Addr} : ∀ {vs : List (V × V)} {ps : List (W × W)} {kvs : List (Key × W)}, Paired (fun p q => RepW K L ad p.1 q.1 ∧ RepW K L ad p.2 q.2) vs ps → keysW ps = some kvs → ∃ ks : List (Key × V), vs = ks.map (fun kv => (kV kv.1, kv.2)) ∧ PK K L ad ks kvs
  | [], [], kvs, _, e => by cases e; exact ⟨[], rfl, .nil⟩
  | v :: vs, p :: ps, kvs, h, e => by
    cases h with
    | cons r t =>
      obtain ⟨x, y⟩ := p
      cases x with
      | o i => cases e
      | d d =>
        unfold keysW at e
        split at e
        · rename_i k ks e1 e2
          cases e
          obtain ⟨ks', e3, r3⟩ := keysW_of t e2
          obtain ⟨v1, v2⟩ := v
          have hk : v1 = kV k := key_at r.1 e1
          subst hk e3
          exact ⟨(k, v2) :: ks', rfl, .cons ⟨rfl, r.2⟩ r3⟩
        · cases e
  | [], _ :: _, _, h, _ => by cases h
  | _ :: _, [], _, h, _ => by cases h
instance {ts : List (TE × TE)} {ds : List (TD × TD)} [a : SimPs K ts ds] : SimE K (tDisp ts) (dDisp ds) := ⟨fun ρ C ad σ H Qd Q hR sR h k => by
  intro p np
  obtain ⟨hR1, g1⟩ := hR.new (c := .dK []) np (fun z => by cases z) ⟨[], upd_same, .nil⟩
  refine a.run ρ _ _ σ _ _ _ hR1 (sR.grw g1) h fun ps C2 vs H2 ad2 q2 hR2 g2 r2 => ?_
  obtain ⟨hc, kvs, ek, l, q⟩ := q2
  have hp : ad2[C.length]? = some p := g2.pre _ _ (by rw [← hR.len]; exact List.getElem?_concat_length)
  obtain ⟨ks, h1, h2⟩ := hR2.rep _ _ _ hp hc
  cases h2
  obtain ⟨ks', rfl, r3⟩ := keysW_of r2 ek
  obtain ⟨hR3, g3⟩ := hR2.set (c := .dK (mergeKW [] kvs)) (o := .dK (mergeK [] ks')) hp hc (fun z => by cases z) (fun z => by cases z) ⟨_, upd_same, PK.merge r3 .nil⟩
  exact ⟨h1, ks', rfl, by rw [prd_len r3]; exact l, k _ _ _ _ ad2 q hR3 (g1.trans (g2.trans g3)) ⟨p, hp, rfl⟩⟩⟩
def dDGet2 (td ty tx : TD) : TD := fun ρ C Q => td ρ C fun x C1 => match x with
  | .o i => (∃ kvs, C1[i]? = some (.dK kvs)) ∧ ty ρ C1 fun y C2 => tx ρ C2 fun z C3 => match y, C3[i]? with
    | .d d, some (.dK kvs) => ∃ k, keyD d = some k ∧ Q ((valW kvs k).getD z) C3
    | _, _ => False
  | _ => False
instance {td ty tx : TE} {dd dy dx : TD} [a : SimE K td dd] [b : SimE K ty dy] [c : SimE K tx dx] : SimE K (tDGet2 td ty tx) (dDGet2 dd dy dx) := ⟨fun ρ C ad σ H Qd Q hR sR h k =>
  a.run ρ C ad σ H _ _ hR sR h fun x C1 v H1 ad1 q1 hR1 g1 r1 => by
    split at q1
    · rename_i i
      obtain ⟨⟨kvs, hc⟩, q1⟩ := q1
      obtain ⟨p, hp, rfl⟩ := r1
      obtain ⟨ks, e1, r0⟩ := hR1.rep _ _ _ hp hc
      refine ⟨p, rfl, .inl ⟨ks, .inl e1⟩, b.run ρ C1 ad1 σ H1 _ _ hR1 (sR.grw g1) q1 fun y C2 w H2 ad2 q2 hR2 g2 r2 => c.run ρ C2 ad2 σ H2 _ _ hR2 ((sR.grw g1).grw g2) q2 fun z C3 u H3 ad3 q3 hR3 g3 r3 => ?_⟩
      split at q3
      · rename_i d kvs' hc'
        obtain ⟨ky, e2, q3⟩ := q3
        have hp3 := g3.pre _ _ (g2.pre _ _ hp)
        obtain ⟨ks', e3, r4⟩ := hR3.rep _ _ _ hp3 hc'
        have hk := key_at (r2.grw g3) e2
        refine ⟨_, .inl ⟨ks', ky, .inl e3, hk, rfl⟩, ?_⟩
        obtain ⟨v1, v2⟩ := PK.val r4 ky
        have g := g1.trans (g2.trans g3)
        cases hv : valW kvs' ky with
        | none =>
          rw [v2 hv]
          rw [hv] at q3
          exact k _ _ _ _ ad3 q3 hR3 g r3
        | some w' =>
          obtain ⟨v', e4, r5⟩ := v1 w' hv
          rw [e4]
          rw [hv] at q3
          exact k _ _ _ _ ad3 q3 hR3 g r5
      · exact q3.elim
    · exact q1.elim⟩
end
end BK

namespace BK
open PySem PySem.Spec PyProof.Rows L2
section
variable {K : PySem.W.Frag}
/-! ## math.lcm -/
def rLcm : List V → Hp → VK → Prop := fun vs H Q => ∃ a b : Int, vs = [.int a, .int b] ∧ a.natAbs.log2 < 13000 ∧ b.natAbs.log2 < 13000 ∧ (Nat.lcm a.natAbs b.natAbs).log2 < 100000 ∧ Q (.int ((Nat.lcm a.natAbs b.natAbs : Nat) : Int)) H
theorem log_max {a b n : Nat} (ha : a.log2 < n) (hb : b.log2 < n) : (max a b).log2 < n := by
  rcases Nat.le_total a b with h | h
  · rw [Nat.max_eq_right h]; exact hb
  · rw [Nat.max_eq_left h]; exact ha
theorem q_lcm (K : PySem.W.Frag) {X : Cx} (hK : X.K = K := by rfl) : CallR X (.builtin "math.lcm") rLcm := by
  intro pins s σ H vs us Q I r h
  obtain ⟨a, b, rfl, h1, h2, h3, q⟩ := h
  obtain ⟨t, u, rfl⟩ := Vals.int2 r
  have e1 : Nat.lcm 1 a.natAbs = a.natAbs := by simp
  have l1 : (max 1 a.natAbs).log2 < 13000 := log_max (by decide) h1
  have l2 := log_max h1 h2
  have g := PySem.W.mg_run_lcm a t b u (by omega) (by omega) (by rw [e1]; show Nat.log2 _ < bitsLine; exact Nat.lt_of_lt_of_le h3 (by decide))
  rw [e1] at g
  exact call_function_meets PySem.W.MGF.kind_lcm PySem.W.MGF.plain_lcm PySem.W.MGF.entry_lcm (PySem.W.MGF.args_lcm _ _) g.meets ⟨.int _, H, I.tok _, ⟨_, rfl⟩, q⟩
def dLcm : List W → Cs → (W → Cs → Prop) → Prop := fun ws C Q => match ws with
  | [.d (.int a), .d (.int b)] => a.natAbs.log2 < 13000 ∧ b.natAbs.log2 < 13000 ∧ (Nat.lcm a.natAbs b.natAbs).log2 < 100000 ∧ Q (.d (.int ((Nat.lcm a.natAbs b.natAbs : Nat) : Int))) C
  | _ => False
instance : LowA K rLcm dLcm := ⟨fun ws C ad vs H Qd Q hR r h k => by
  unfold dLcm at h
  split at h
  · rename_i a b
    cases r with
    | cons r1 r2 =>
      cases r2 with
      | cons r3 r4 =>
        cases r4
        obtain ⟨h1, h2, h3, q⟩ := h
        exact ⟨a, b, by rw [int_at r1, int_at r3], h1, h2, h3, k _ C _ H ad q hR .refl rw_int⟩
  · exact h.elim⟩
/-! ## range(i, j, -1) -/
def itRngC (lo c : Int) (n : Nat) : ItD := fun i _ r => r = if i < n then some (.d (.int (lo + (i : Nat) * c))) else none
theorem itRngC_if {lo c : Int} {n : Nat} (i : Nat) (C : Cs) : itRngC lo c n i C (if i < n then some (.d (.int (lo + (i : Nat) * c))) else none) := rfl
theorem low_rngC {ad : List Addr} {C : Cs} {H : Hp} {lo c : Int} {n : Nat} : LowIt K ad C H (Itc lo c n) (itRngC lo c n) := by
  refine ⟨fun ad2 C2 H2 i hR g e => ?_, fun ad2 C2 H2 i w hR g e => ?_, fun ad2 C2 H2 i w x H3 hR g e y => ?_⟩
  · have e : none = if i < n then some (W.d (.int (lo + (i : Nat) * c))) else none := e
    show n ≤ i
    split at e
    · cases e
    · omega
  · have e : some w = if i < n then some (W.d (.int (lo + (i : Nat) * c))) else none := e
    show i < n
    split at e
    · assumption
    · cases e
  · have e : some w = if i < n then some (W.d (.int (lo + (i : Nat) * c))) else none := e
    obtain ⟨rfl, rfl⟩ := y
    split at e
    · cases e
      exact ⟨hR, .refl, rw_int⟩
    · cases e
def dRng3 (a : TDA) : TDI := fun ρ C R => a ρ C fun ws C1 => match ws with
  | [.d (.int i), .d (.int j), .d (.int c)] => c = -1 ∧ ((-(2 ^ 62) ≤ i ∧ i < 2 ^ 62) ∧ -(2 ^ 62) ≤ j ∧ j < 2 ^ 62) ∧ R (itRngC i (-1) (i - j).toNat) C1
  | _ => False
instance {t : TA} {d : TDA} [a : SimA K t d] : SimI K (iRng3 t) (dRng3 d) := ⟨fun ρ C ad σ H Rd R hR sR h k => a.run ρ C ad σ H _ _ hR sR h fun ws C1 vs H1 ad1 q1 hR1 g1 r1 => by
  split at q1
  · rename_i i j c
    cases r1 with
    | cons ra rr =>
      cases rr with
      | cons rb rr =>
        cases rr with
        | cons rc rr =>
          cases rr
          obtain ⟨rfl, ⟨⟨h1, h2⟩, h3, h4⟩, q⟩ := q1
          exact ⟨i, j, -1, _, by rw [int_at ra, int_at rb, int_at rc], RgC.neg h1 h2 h3 h4, k _ _ C1 H1 ad1 q hR1 g1 low_rngC⟩
  · exact q1.elim⟩
/-! ## list.index, deep -/
theorem q_indexD (K : PySem.W.Frag) {X : Cx} (hu : X.A.units + 65 < cLine) (hK : X.K = K := by rfl) : MtR X "list.index" (rIndexD K) := hK ▸ mt_indexD hu
def dIndexDp : W → List W → Cs → (W → Cs → Prop) → Prop := fun x ws C Q => ∃ (y : W) (d : Dt) (es : List Dt) (j : Nat), ws = [y] ∧ rds C x (.lst es) ∧ rds C y d ∧ (Pln d = true ∧ deep d ≤ 64 ∧ Plns es = true ∧ deep (.lst es) ≤ 64) ∧ es[j]? = some d ∧ (∀ m, m < j → es[m]? ≠ some d) ∧ Q (.d (.int (j : Nat))) C
theorem pyAll_at : ∀ (es : List Dt) (j : Nat), (pyAll es)[j]? = (es[j]?).map Dt.py
  | [], j => by simp [pyAll]
  | e :: es, 0 => by simp [pyAll]
  | e :: es, j + 1 => by simp only [pyAll, List.getElem?_cons_succ]; exact pyAll_at es j
theorem plns_mem {es : List Dt} (h : Plns es = true) : ∀ d ∈ es, Pln d = true := by
  induction es with
  | nil => intro d hd; cases hd
  | cons e es ih =>
    unfold Plns at h
    rw [Bool.and_eq_true] at h
    intro d hd
    rcases List.mem_cons.mp hd with rfl | hd
    · exact h.1
    · exact ih h.2 d hd
instance : LowM K (rIndexD K) dIndexDp := ⟨fun x ws C ad v vs H Qd Q hR rx r h k => by
  obtain ⟨y, d, es, j, rfl, hx, hy, ⟨h1, h2, h3, h4⟩, hj, hno, q⟩ := h
  cases r with
  | cons r1 r2 =>
    cases r2
    have ax := rds_at hR (.lst es) x v rx hx
    have at2 := at_dp (.lst es) v (by unfold Pln; exact h3) ax
    have sh2 := pln_shaped (d := .lst es) (by unfold Pln; exact h3) h4
    simp only [Dt.py] at at2 sh2
    have ax2 := ax
    unfold At at ax2
    obtain ⟨a, xs, rfl, _⟩ := ax2
    refine ⟨a, _, d.py, pyAll es, j, d.py, rfl, rfl, at2, at_dp d _ h1 (rds_at hR d y _ r1 hy), sh2, pln_shaped h1 h2, by rw [pyAll_at, hj]; rfl, (eqv_pln d d h1 h1).mpr rfl, fun m z' hm hz => ?_, k _ C _ H ad q hR .refl rw_int⟩
    rw [pyAll_at] at hz
    obtain ⟨z, hz1, rfl⟩ := Option.map_eq_some_iff.mp hz
    have pz := plns_mem h3 z (List.mem_of_getElem? hz1)
    cases e : PyData.eqv z.py d.py with
    | false => rfl
    | true =>
      have := (eqv_pln z d pz h1).mp e
      rw [this] at hz1
      exact absurd hz1 (hno m hm)⟩
end
end BK

namespace BK
open PySem PySem.Spec PyProof.Rows L2
section
variable {K : PySem.W.Frag}
/-! ## a slice of a told list or tuple -/
def rSlO (K : PySem.W.Frag) : V → Option Int → Option Int → Hp → VK → Prop := fun x lo hi H Q => rSlL K x lo hi H Q ∨ rSlA K x lo hi H Q
theorem q_slO (K : PySem.W.Frag) {X : Cx} (hK : X.K = K := by rfl) : SlR X (rSlO K) := SlR.or (sl_listK hK) (q_slT K hK)
def dSlO : W → Option Int → Option Int → Cs → (W → Cs → Prop) → Prop := fun x lo hi C Q => match x with
  | .d (.lst ds) => Q (.d (.lst (cutD ds lo hi))) C
  | .d (.tup ds) => Q (.d (.tup (cutD ds lo hi))) C
  | _ => False
instance : LowSl K (rSlO K) dSlO := ⟨fun x lo hi C ad v H Qd Q hR r h k => by
  unfold dSlO at h
  split at h
  · rename_i ds
    refine .inl (LowSl.run (K := K) (r := rSlL K) (d := dSlL) (.d (.lst ds)) lo hi C ad v H Qd Q hR r ?_ k)
    have e : cutW (ds.map W.d) lo hi = (cutD ds lo hi).map W.d := by
      unfold cutW cutD
      rw [List.length_map, List.map_take, List.map_drop]
    show newL (cutW (ds.map W.d) lo hi) C Qd
    rw [e]
    exact newL_d h
  · rename_i ds
    exact .inr (LowSl.run (K := K) (r := rSlA K) (d := dSlT) (.d (.tup ds)) lo hi C ad v H Qd Q hR r h k)
  · exact h.elim⟩
end
end BK

namespace BK
open PySem PySem.Spec PyProof.Rows L2
section
variable {K : PySem.W.Frag}
/-! ## calls with a default that is a number, and by keyword -/
def dCall1 (sp : SpD) (n : Int) (a : TDA) : TD := fun ρ C Q => a ρ C fun ws C1 => sp (ws ++ [.d (.int n)]) C1 Q X0
instance {sp : SpD} {n : Int} {E : XK} {ta : TA} {da : TDA} [a : SimA K ta da] : SimE K (tCall (lft K sp) [V.int n] E ta) (dCall1 sp n da) := ⟨fun ρ C ad σ H Qd Q hR sR h k =>
  a.run ρ C ad σ H _ _ hR sR h fun ws C1 vs H1 ad1 q1 hR1 g1 r1 => ⟨ws ++ [.d (.int n)], C1, ad1, Qd, X0, hR1, prd_app2 r1 (.cons rw_int .nil), q1, k.grw g1, fun cls fs C' d H' ad' x => x.elim⟩⟩
def dCallN (sp : SpD) (n m : Nat) (a b : TDA) : TD := fun ρ C Q => a ρ C fun ws C1 => b ρ C1 fun us C2 => ws.length = n ∧ us.length = m ∧ sp (ws ++ us) C2 Q X0
instance {sp : SpD} {n m : Nat} {E : XK} {ta tb : TA} {da db : TDA} [a : SimA K ta da] [b : SimA K tb db] : SimE K (tCallN n m (lft K sp) (fun vs zs => vs ++ zs) E ta tb) (dCallN sp n m da db) := ⟨fun ρ C ad σ H Qd Q hR sR h k =>
  a.run ρ C ad σ H _ _ hR sR h fun ws C1 vs H1 ad1 q1 hR1 g1 r1 => b.run ρ C1 ad1 σ H1 _ _ hR1 (sR.grw g1) q1 fun us C2 zs H2 ad2 q2 hR2 g2 r2 =>
    ⟨by rw [prd_len r1]; exact q2.1, by rw [prd_len r2]; exact q2.2.1, ws ++ us, C2, ad2, Qd, X0, hR2, prd_app2 (RepWs.grw r1 g2) r2, q2.2.2, k.grw (g1.trans g2), fun cls fs C' d H' ad' x => x.elim⟩⟩
end
end BK

namespace BK
open PySem PySem.Spec PyProof.Rows L2
/-! ## max and min of a list of ints -/
theorem q_maxL (K : PySem.W.Frag) {X : Cx} (hc : X.calm = true) (hK : X.K = K := by rfl) : CallR X (.builtin "max") (rMax K) := hK ▸ cr_max hc
theorem q_minL (K : PySem.W.Frag) {X : Cx} (hc : X.calm = true) (hK : X.K = K := by rfl) : CallR X (.builtin "min") (rMin K) := hK ▸ cr_min hc
section
variable {K : PySem.W.Frag}
def dMaxL : List W → Cs → (W → Cs → Prop) → Prop := fun ws C Q => ∃ w ns, ws = [w] ∧ lstW C w = some (intT ns) ∧ 0 < ns.length ∧ ∀ m, m ∈ ns → (∀ y, y ∈ ns → y ≤ m) → Q (.d (.int m)) C
def dMinL : List W → Cs → (W → Cs → Prop) → Prop := fun ws C Q => ∃ w ns, ws = [w] ∧ lstW C w = some (intT ns) ∧ 0 < ns.length ∧ ∀ m, m ∈ ns → (∀ y, y ∈ ns → m ≤ y) → Q (.d (.int m)) C
instance : LowA K (rMax K) dMaxL := ⟨fun ws C ad vs H Qd Q hR r h k => by
  obtain ⟨w, ns, rfl, e, l, q⟩ := h
  cases r with
  | cons r1 r2 =>
    cases r2
    obtain ⟨a, xs, rfl, h1, rx, _⟩ := lst_of hR r1 e
    have := ints_ats (ats_of rx)
    subst this
    exact ⟨a, ns, rfl, h1, l, fun m hm hy => k _ C _ H ad (q m hm hy) hR .refl rw_int⟩⟩
instance : LowA K (rMin K) dMinL := ⟨fun ws C ad vs H Qd Q hR r h k => by
  obtain ⟨w, ns, rfl, e, l, q⟩ := h
  cases r with
  | cons r1 r2 =>
    cases r2
    obtain ⟨a, xs, rfl, h1, rx, _⟩ := lst_of hR r1 e
    have := ints_ats (ats_of rx)
    subst this
    exact ⟨a, ns, rfl, h1, l, fun m hm hy => k _ C _ H ad (q m hm hy) hR .refl rw_int⟩⟩
end
end BK

namespace BK
open PySem PySem.Spec PyProof.Rows L2
def topS (i : Nat) : Stmt := PySem.Challenge.pw_blindkeys_k42_whole_prints_come_again.main.body.getD i (.Pass ⟨0, 0, 0, 0⟩)
abbrev s_is_row : Stmt := topS 9
abbrev N_is_row : List Str := ["thing"]
theorem sc_is_row : FnScope N_is_row ["thing"] (defScope s_is_row) := ⟨rfl, rfl, rfl, by decide +kernel, rfl, by decide +kernel, by decide +kernel⟩
abbrev s_is_whole : Stmt := topS 10
abbrev N_is_whole : List Str := ["thing", "low"]
theorem sc_is_whole : FnScope N_is_whole ["thing", "low"] (defScope s_is_whole) := ⟨rfl, rfl, rfl, by decide +kernel, rfl, by decide +kernel, by decide +kernel⟩
abbrev s_is_within : Stmt := topS 11
abbrev N_is_within : List Str := ["thing", "low", "high"]
theorem sc_is_within : FnScope N_is_within ["thing", "low", "high"] (defScope s_is_within) := ⟨rfl, rfl, rfl, by decide +kernel, rfl, by decide +kernel, by decide +kernel⟩
abbrev s_is_plain : Stmt := topS 12
abbrev N_is_plain : List Str := ["thing"]
theorem sc_is_plain : FnScope N_is_plain ["thing"] (defScope s_is_plain) := ⟨rfl, rfl, rfl, by decide +kernel, rfl, by decide +kernel, by decide +kernel⟩
abbrev s_is_clip : Stmt := topS 13
abbrev N_is_clip : List Str := ["thing"]
theorem sc_is_clip : FnScope N_is_clip ["thing"] (defScope s_is_clip) := ⟨rfl, rfl, rfl, by decide +kernel, rfl, by decide +kernel, by decide +kernel⟩
abbrev s_is_word : Stmt := topS 14
abbrev N_is_word : List Str := ["thing"]
theorem sc_is_word : FnScope N_is_word ["thing"] (defScope s_is_word) := ⟨rfl, rfl, rfl, by decide +kernel, rfl, by decide +kernel, by decide +kernel⟩
abbrev s_is_key : Stmt := topS 20
abbrev N_is_key : List Str := ["thing"]
theorem sc_is_key : FnScope N_is_key ["thing"] (defScope s_is_key) := ⟨rfl, rfl, rfl, by decide +kernel, rfl, by decide +kernel, by decide +kernel⟩
abbrev s_key_weight : Stmt := topS 21
abbrev N_key_weight : List Str := ["key"]
theorem sc_key_weight : FnScope N_key_weight ["key"] (defScope s_key_weight) := ⟨rfl, rfl, rfl, by decide +kernel, rfl, by decide +kernel, by decide +kernel⟩
abbrev s_weigh : Stmt := topS 22
abbrev N_weigh : List Str := ["keys", "key"]
theorem sc_weigh : FnScope N_weigh ["keys"] (defScope s_weigh) := ⟨rfl, rfl, rfl, by decide +kernel, rfl, by decide +kernel, by decide +kernel⟩
abbrev s_is_hand : Stmt := topS 23
abbrev N_is_hand : List Str := ["thing", "key"]
theorem sc_is_hand : FnScope N_is_hand ["thing"] (defScope s_is_hand) := ⟨rfl, rfl, rfl, by decide +kernel, rfl, by decide +kernel, by decide +kernel⟩
abbrev s_check_hand : Stmt := topS 24
abbrev N_check_hand : List Str := ["thing"]
theorem sc_check_hand : FnScope N_check_hand ["thing"] (defScope s_check_hand) := ⟨rfl, rfl, rfl, by decide +kernel, rfl, by decide +kernel, by decide +kernel⟩
abbrev s_is_sheet : Stmt := topS 25
abbrev N_is_sheet : List Str := ["thing"]
theorem sc_is_sheet : FnScope N_is_sheet ["thing"] (defScope s_is_sheet) := ⟨rfl, rfl, rfl, by decide +kernel, rfl, by decide +kernel, by decide +kernel⟩
abbrev s_check_sheet : Stmt := topS 26
abbrev N_check_sheet : List Str := ["thing"]
theorem sc_check_sheet : FnScope N_check_sheet ["thing"] (defScope s_check_sheet) := ⟨rfl, rfl, rfl, by decide +kernel, rfl, by decide +kernel, by decide +kernel⟩
abbrev s_nearest : Stmt := topS 27
abbrev N_nearest : List Str := ["side", "many", "near"]
theorem sc_nearest : FnScope N_nearest ["side", "many"] (defScope s_nearest) := ⟨rfl, rfl, rfl, by decide +kernel, rfl, by decide +kernel, by decide +kernel⟩
abbrev s_take : Stmt := topS 28
abbrev N_take : List Str := ["side", "many", "near"]
theorem sc_take : FnScope N_take ["side", "many"] (defScope s_take) := ⟨rfl, rfl, rfl, by decide +kernel, rfl, by decide +kernel, by decide +kernel⟩
abbrev s_do_key : Stmt := topS 29
abbrev N_do_key : List Str := ["key", "left", "right", "held", "kind"]
theorem sc_do_key : FnScope N_do_key ["key", "left", "right", "held"] (defScope s_do_key) := ⟨rfl, rfl, rfl, by decide +kernel, rfl, by decide +kernel, by decide +kernel⟩
abbrev s_press : Stmt := topS 30
abbrev N_press : List Str := ["sheet", "hand", "times", "words", "cursor", "clip", "left", "right", "held", "_", "key"]
theorem sc_press : FnScope N_press ["sheet", "hand", "times"] (defScope s_press) := ⟨rfl, rfl, rfl, by decide +kernel, rfl, by decide +kernel, by decide +kernel⟩
abbrev s_go : Stmt := topS 31
abbrev N_go : List Str := ["key", "lengths", "left", "right", "held", "kind", "many"]
theorem sc_go : FnScope N_go ["key", "lengths"] (defScope s_go) := ⟨rfl, rfl, rfl, by decide +kernel, rfl, by decide +kernel, by decide +kernel⟩
abbrev s_needed : Stmt := topS 32
abbrev N_needed : List Str := ["hand", "side", "lengths", "least", "key"]
theorem sc_needed : FnScope N_needed ["hand", "side", "lengths"] (defScope s_needed) := ⟨rfl, rfl, rfl, by decide +kernel, rfl, by decide +kernel, by decide +kernel⟩
abbrev s_row_of : Stmt := topS 34
abbrev N_row_of : List Str := ["side", "many", "deep"]
theorem sc_row_of : FnScope N_row_of ["side", "many"] (defScope s_row_of) := ⟨rfl, rfl, rfl, by decide +kernel, rfl, by decide +kernel, by decide +kernel⟩
abbrev s_sourced : Stmt := topS 35
abbrev N_sourced : List Str := ["hand", "keys", "number", "key", "at"]
theorem sc_sourced : FnScope N_sourced ["hand"] (defScope s_sourced) := ⟨rfl, rfl, rfl, by decide +kernel, rfl, by decide +kernel, by decide +kernel⟩
abbrev s_trace : Stmt := topS 36
abbrev N_trace : List Str := ["keys", "lengths", "left", "right", "held", "key"]
theorem sc_trace : FnScope N_trace ["keys", "lengths"] (defScope s_trace) := ⟨rfl, rfl, rfl, by decide +kernel, rfl, by decide +kernel, by decide +kernel⟩
abbrev s_source_in : Stmt := topS 37
abbrev N_source_in : List Str := ["rows", "near", "spot", "side", "deep", "number", "row"]
theorem sc_source_in : FnScope N_source_in ["rows", "near", "spot"] (defScope s_source_in) := ⟨rfl, rfl, rfl, by decide +kernel, rfl, by decide +kernel, by decide +kernel⟩
abbrev s_far_held : Stmt := topS 39
abbrev N_far_held : List Str := ["hand", "kept", "key"]
theorem sc_far_held : FnScope N_far_held ["hand"] (defScope s_far_held) := ⟨rfl, rfl, rfl, by decide +kernel, rfl, by decide +kernel, by decide +kernel⟩
abbrev s_Far___init__ : Stmt := inClass (topS 40) 0
abbrev N_Far___init__ : List Str := ["self", "hand", "held", "enough"]
theorem sc_Far___init__ : FnScope N_Far___init__ ["self", "hand"] (defScope s_Far___init__) := ⟨rfl, rfl, rfl, by decide +kernel, rfl, by decide +kernel, by decide +kernel⟩
abbrev s_Far_source : Stmt := inClass (topS 40) 1
abbrev N_Far_source : List Str := ["self", "spot"]
theorem sc_Far_source : FnScope N_Far_source ["self", "spot"] (defScope s_Far_source) := ⟨rfl, rfl, rfl, by decide +kernel, rfl, by decide +kernel, by decide +kernel⟩
abbrev s_Far_is_near : Stmt := inClass (topS 40) 2
abbrev N_Far_is_near : List Str := ["self", "source"]
theorem sc_Far_is_near : FnScope N_Far_is_near ["self", "source"] (defScope s_Far_is_near) := ⟨rfl, rfl, rfl, by decide +kernel, rfl, by decide +kernel, by decide +kernel⟩
abbrev s_Far_ring_at : Stmt := inClass (topS 40) 4
abbrev N_Far_ring_at : List Str := ["self", "spot", "source", "many"]
theorem sc_Far_ring_at : FnScope N_Far_ring_at ["self", "spot"] (defScope s_Far_ring_at) := ⟨rfl, rfl, rfl, by decide +kernel, rfl, by decide +kernel, by decide +kernel⟩
abbrev s_Far_print_at : Stmt := inClass (topS 40) 5
abbrev N_Far_print_at : List Str := ["self", "spot", "_"]
theorem sc_Far_print_at : FnScope N_Far_print_at ["self", "spot"] (defScope s_Far_print_at) := ⟨rfl, rfl, rfl, by decide +kernel, rfl, by decide +kernel, by decide +kernel⟩
abbrev s_Far_prints : Stmt := inClass (topS 40) 6
abbrev N_Far_prints : List Str := ["self", "deep"]
theorem sc_Far_prints : FnScope N_Far_prints ["self"] (defScope s_Far_prints) := ⟨rfl, rfl, rfl, by decide +kernel, rfl, by decide +kernel, by decide +kernel⟩
abbrev s_prints : Stmt := topS 41
abbrev N_prints : List Str := ["hand"]
theorem sc_prints : FnScope N_prints ["hand"] (defScope s_prints) := ⟨rfl, rfl, rfl, by decide +kernel, rfl, by decide +kernel, by decide +kernel⟩
abbrev s_round_of_prints : Stmt := topS 42
abbrev N_round_of_prints : List Str := ["hand", "told", "many", "thing"]
theorem sc_round_of_prints : FnScope N_round_of_prints ["hand"] (defScope s_round_of_prints) := ⟨rfl, rfl, rfl, by decide +kernel, rfl, by decide +kernel, by decide +kernel⟩
abbrev s__law_spring : Stmt := topS 44
abbrev N__law_spring : List Str := ["script", "figures", "stir", "cell"]
theorem sc__law_spring : FnScope N__law_spring ["script"] (defScope s__law_spring) := ⟨rfl, rfl, rfl, by decide +kernel, rfl, by decide +kernel, by decide +kernel⟩
abbrev s__law_draw : Stmt := topS 45
abbrev N__law_draw : List Str := ["spring", "many", "found", "stir"]
theorem sc__law_draw : FnScope N__law_draw ["spring", "many"] (defScope s__law_draw) := ⟨rfl, rfl, rfl, by decide +kernel, rfl, by decide +kernel, by decide +kernel⟩
abbrev s__law_word : Stmt := topS 46
abbrev N__law_word : List Str := ["spring", "most", "kinds", "k"]
theorem sc__law_word : FnScope N__law_word ["spring", "most"] (defScope s__law_word) := ⟨rfl, rfl, rfl, by decide +kernel, rfl, by decide +kernel, by decide +kernel⟩
abbrev s__law_hand : Stmt := topS 47
abbrev N__law_hand : List Str := ["spring", "most", "wide", "found", "room", "k", "size", "name"]
theorem sc__law_hand : FnScope N__law_hand ["spring", "most", "wide"] (defScope s__law_hand) := ⟨rfl, rfl, rfl, by decide +kernel, rfl, by decide +kernel, by decide +kernel⟩
abbrev s__law_table : Stmt := topS 48
abbrev N__law_table : List Str := ["hand", "left", "right", "held", "lefts", "rights", "clip", "number", "key", "many", "at"]
theorem sc__law_table : FnScope N__law_table ["hand", "left", "right", "held"] (defScope s__law_table) := ⟨rfl, rfl, rfl, by decide +kernel, rfl, by decide +kernel, by decide +kernel⟩
abbrev s__law_is_cut : Stmt := topS 49
abbrev N__law_is_cut : List Str := ["hand", "left", "right", "held", "key", "ways", "by"]
theorem sc__law_is_cut : FnScope N__law_is_cut ["hand", "left", "right", "held"] (defScope s__law_is_cut) := ⟨rfl, rfl, rfl, by decide +kernel, rfl, by decide +kernel, by decide +kernel⟩
abbrev s__law_far : Stmt := topS 50
abbrev N__law_far : List Str := ["hand", "held", "left", "right", "size", "key"]
theorem sc__law_far : FnScope N__law_far ["hand"] (defScope s__law_far) := ⟨rfl, rfl, rfl, by decide +kernel, rfl, by decide +kernel, by decide +kernel⟩
abbrev s__law_row : Stmt := topS 51
abbrev N__law_row : List Str := ["far", "spot", "reach", "lists", "found", "names"]
theorem sc__law_row : FnScope N__law_row ["far", "spot"] (defScope s__law_row) := ⟨rfl, rfl, rfl, by decide +kernel, rfl, by decide +kernel, by decide +kernel⟩
abbrev s__law_turn : Stmt := topS 52
abbrev N__law_turn : List Str := ["begun", "many", "found"]
theorem sc__law_turn : FnScope N__law_turn ["begun", "many"] (defScope s__law_turn) := ⟨rfl, rfl, rfl, by decide +kernel, rfl, by decide +kernel, by decide +kernel⟩
abbrev s__law_keeper : Stmt := topS 53
abbrev N__law_keeper : List Str := ["spring", "size", "two", "some", "hand", "more"]
theorem sc__law_keeper : FnScope N__law_keeper ["spring"] (defScope s__law_keeper) := ⟨rfl, rfl, rfl, by decide +kernel, rfl, by decide +kernel, by decide +kernel⟩
abbrev s__law_any : Stmt := topS 54
abbrev N__law_any : List Str := ["spring", "many", "letters", "k"]
theorem sc__law_any : FnScope N__law_any ["spring", "many"] (defScope s__law_any) := ⟨rfl, rfl, rfl, by decide +kernel, rfl, by decide +kernel, by decide +kernel⟩
abbrev s__law_right : Stmt := topS 55
abbrev N__law_right : List Str := ["hand", "told", "often", "sheet", "ways", "depth", "often_so", "begun", "last", "rows", "turn", "ends", "at", "due", "row"]
theorem sc__law_right : FnScope N__law_right ["hand", "told", "often", "sheet", "ways"] (defScope s__law_right) := ⟨rfl, rfl, rfl, by decide +kernel, rfl, by decide +kernel, by decide +kernel⟩
abbrev s_law : Stmt := topS 56
abbrev N_law : List Str := ["script", "spring", "sheet_here", "turn", "hand", "told", "often", "far", "depth", "spots", "ways", "begun", "lost", "at", "spot"]
theorem sc_law : FnScope N_law ["script"] (defScope s_law) := ⟨rfl, rfl, rfl, by decide +kernel, rfl, by decide +kernel, by decide +kernel⟩
structure FnT (K : PySem.W.Frag) (mg : Str → Option Value) (x : Str) (st : Stmt) (ps : List Str) : Type where
  f : Addr
  fd : FuncData
  F : Fun K x x st f fd
  g : mg x = some (.ref f)
  b : Binds K fd ps []
structure ClT (K : PySem.W.Frag) (mg : Str → Option Value) (x : Str) : Type where
  C : Addr
  g : mg x = some (.ref C)
  cl : Cls K C
  mkk : PySem.W.makesIn K C = true
  kp : PySem.W.keepIn K (.ref C) = true
structure MeT (K : PySem.W.Frag) (C : Addr) (x q : Str) (st : Stmt) (ps : List Str) : Type where
  f : Addr
  fd : FuncData
  F : Fun K x q st f fd
  m : Meth K C x f
  b : Binds K fd ps []
structure FnTK (K : PySem.W.Frag) (mg : Str → Option Value) (x : Str) (st : Stmt) (ps : List Str) (n : Nat) (ks : List Str) (dv : List V) : Type where
  f : Addr
  fd : FuncData
  F : Fun K x x st f fd
  g : mg x = some (.ref f)
  ds : List Value
  vd : Vals dv ds
  bd : Binds K fd ps ds
  kb : KBn K fd ps n ks (fun us ws => us ++ ws) (fun vs zs => vs ++ zs)
structure Txt (K : PySem.W.Frag) (mg : Str → Option Value) (w : World) : Type where
  k_Far : ClT K mg "Far"
  n_Far_near : NoAttr K k_Far.C "near"
  n_Far_rows : NoAttr K k_Far.C "rows"
  f_is_row : FnT K mg "is_row" s_is_row ["thing"]
  f_is_whole : FnT K mg "is_whole" s_is_whole ["thing", "low"]
  f_is_within : FnT K mg "is_within" s_is_within ["thing", "low", "high"]
  f_is_plain : FnT K mg "is_plain" s_is_plain ["thing"]
  f_is_clip : FnT K mg "is_clip" s_is_clip ["thing"]
  f_is_word : FnT K mg "is_word" s_is_word ["thing"]
  f_is_key : FnT K mg "is_key" s_is_key ["thing"]
  f_key_weight : FnT K mg "key_weight" s_key_weight ["key"]
  f_weigh : FnT K mg "weigh" s_weigh ["keys"]
  f_is_hand : FnT K mg "is_hand" s_is_hand ["thing"]
  f_check_hand : FnT K mg "check_hand" s_check_hand ["thing"]
  f_is_sheet : FnT K mg "is_sheet" s_is_sheet ["thing"]
  f_check_sheet : FnT K mg "check_sheet" s_check_sheet ["thing"]
  f_nearest : FnT K mg "nearest" s_nearest ["side", "many"]
  f_take : FnT K mg "take" s_take ["side", "many"]
  f_do_key : FnT K mg "do_key" s_do_key ["key", "left", "right", "held"]
  f_press : FnTK K mg "press" s_press ["sheet", "hand", "times"] 2 ["times"] [.int 1]
  f_go : FnT K mg "go" s_go ["key", "lengths"]
  f_needed : FnT K mg "needed" s_needed ["hand", "side", "lengths"]
  f_row_of : FnT K mg "row_of" s_row_of ["side", "many"]
  f_sourced : FnT K mg "sourced" s_sourced ["hand"]
  f_trace : FnT K mg "trace" s_trace ["keys", "lengths"]
  f_source_in : FnT K mg "source_in" s_source_in ["rows", "near", "spot"]
  f_far_held : FnT K mg "far_held" s_far_held ["hand"]
  f_Far___init__ : MeT K k_Far.C "__init__" "Far.__init__" s_Far___init__ ["self", "hand"]
  f_Far_source : MeT K k_Far.C "source" "Far.source" s_Far_source ["self", "spot"]
  f_Far_is_near : MeT K k_Far.C "is_near" "Far.is_near" s_Far_is_near ["self", "source"]
  f_Far_ring_at : MeT K k_Far.C "ring_at" "Far.ring_at" s_Far_ring_at ["self", "spot"]
  f_Far_print_at : MeT K k_Far.C "print_at" "Far.print_at" s_Far_print_at ["self", "spot"]
  f_Far_prints : MeT K k_Far.C "prints" "Far.prints" s_Far_prints ["self"]
  f_prints : FnT K mg "prints" s_prints ["hand"]
  f_round_of_prints : FnT K mg "round_of_prints" s_round_of_prints ["hand"]
  f__law_spring : FnT K mg "_law_spring" s__law_spring ["script"]
  f__law_draw : FnT K mg "_law_draw" s__law_draw ["spring", "many"]
  f__law_word : FnT K mg "_law_word" s__law_word ["spring", "most"]
  f__law_hand : FnT K mg "_law_hand" s__law_hand ["spring", "most", "wide"]
  f__law_table : FnT K mg "_law_table" s__law_table ["hand", "left", "right", "held"]
  f__law_is_cut : FnT K mg "_law_is_cut" s__law_is_cut ["hand", "left", "right", "held"]
  f__law_far : FnT K mg "_law_far" s__law_far ["hand"]
  f__law_row : FnT K mg "_law_row" s__law_row ["far", "spot"]
  f__law_turn : FnT K mg "_law_turn" s__law_turn ["begun", "many"]
  f__law_keeper : FnT K mg "_law_keeper" s__law_keeper ["spring"]
  f__law_any : FnT K mg "_law_any" s__law_any ["spring", "many"]
  f__law_right : FnT K mg "_law_right" s__law_right ["hand", "told", "often", "sheet", "ways"]
  f_law : FnT K mg "law" s_law ["script"]
  b_abs : mg "abs" = none
  b_all : mg "all" = none
  b_enumerate : mg "enumerate" = none
  b_int : mg "int" = none
  b_len : mg "len" = none
  b_list : mg "list" = none
  b_max : mg "max" = none
  b_min : mg "min" = none
  b_range : mg "range" = none
  b_str : mg "str" = none
  b_sum : mg "sum" = none
  b_tuple : mg "tuple" = none
  b_type : mg "type" = none
  b_lcm : mg "lcm" = some (.builtin "math.lcm")
  c_ALPHABET : ∃ t, mg "ALPHABET" = some (.str "abcdefghijklmnopqrstuvwxyz" t)
  c_HEAVIEST : ∃ t, mg "HEAVIEST" = some (.int 60 t)
  c_LONGEST_WORD : ∃ t, mg "LONGEST_WORD" = some (.int 60 t)
  c_MOST_TIMES : ∃ t, mg "MOST_TIMES" = some (.int 300 t)
  c_NUMBERS : IDict K w mg "NUMBERS" [("left", 0), ("right", 1), ("clip", 2)]
  c_SIDES : SDict K w mg "SIDES" [("left", "left"), ("rub", "left"), ("right", "right"), ("strike", "right"), ("copy", "right"), ("cut", "right")]
theorem pe_c_ALPHABET {X : Cx} {pos : Pos} (T : Txt X.K X.mg X.w) (hg : Gl X "ALPHABET" := by rfl) : PE X (.Name "ALPHABET" pos) (tC (.str "abcdefghijklmnopqrstuvwxyz")) := by
  obtain ⟨t, e⟩ := T.c_ALPHABET
  exact pe_glob hg e ⟨_, rfl⟩
theorem pe_c_HEAVIEST {X : Cx} {pos : Pos} (T : Txt X.K X.mg X.w) (hg : Gl X "HEAVIEST" := by rfl) : PE X (.Name "HEAVIEST" pos) (tC (.int 60)) := by
  obtain ⟨t, e⟩ := T.c_HEAVIEST
  exact pe_glob hg e ⟨_, rfl⟩
theorem pe_c_LONGEST_WORD {X : Cx} {pos : Pos} (T : Txt X.K X.mg X.w) (hg : Gl X "LONGEST_WORD" := by rfl) : PE X (.Name "LONGEST_WORD" pos) (tC (.int 60)) := by
  obtain ⟨t, e⟩ := T.c_LONGEST_WORD
  exact pe_glob hg e ⟨_, rfl⟩
theorem pe_c_MOST_TIMES {X : Cx} {pos : Pos} (T : Txt X.K X.mg X.w) (hg : Gl X "MOST_TIMES" := by rfl) : PE X (.Name "MOST_TIMES" pos) (tC (.int 300)) := by
  obtain ⟨t, e⟩ := T.c_MOST_TIMES
  exact pe_glob hg e ⟨_, rfl⟩
local macro_rules | `(tactic| walk_at "rd") => `(tactic| try dsimp only [tSeq, tNext, tRet, tRetN, tDrop, tIfS, tAsg, tPar, tAug, tVar, tC, tOp, tUn, tCB, tCons, tNil, tTup, tLst, tCall, tTest, tB, tNot, tAnd, tOr, tAndV, tOrV, tNotV, tIf, tIsN, tNotN, tSl, tPart, tNoPart, tM1, tM0, tBM, tBM0, tChain, gName, gTup, gUnl, gCons, gNil, List.nil_append, List.append_nil, List.cons_append])
local macro_rules | `(tactic| walk_at "dw") => `(tactic| try simp only [startD, List.map_cons, List.map_nil, List.length_cons, List.length_nil, List.length_map, List.replicate, List.nil_append, List.cons_append, List.append_nil, Nat.reduceAdd, Nat.reduceSub, Nat.reduceLeDiff, Nat.reduceLT, Nat.reduceMul, List.set_cons_zero, List.set_cons_succ, List.getElem?_cons_zero, List.getElem?_cons_succ, Option.map_some, Option.map_none, true_and, and_true, if_true, if_false, Bool.not_true, Bool.not_false, Bool.false_eq_true, reduceIte, reduceCtorEq, allD, wipeW,
  dAnd, dAndV, dApp, dAsg, dAug, dB, dB0, dBreak, dC, dCB, dCall, dCat, dChain, dCons, dCont, dCut, dDivmod, dDrop, dEnum, dEq, dExt, dFor, dI0, dIc, dIf, dIfS, dIn, dInt1, dIsNon, dIx, dLc, dLen, dListOf, dListT, dLst, dM1, dML, dML0, dMax2, dMin2, dName, dNe, dNext, dNil, dNoPart, dNot, dNotNon, dNotV, dOp, dOr, dOrV, dPar, dPart, dPop, dRep, dRet, dRetN, dRev, dRng1, dRng2, dSeq, dSeqI, dSl, dSlL, dSlS, dStrI, dStrOf, dTruth, dTup, dTupOf, dU, dUn, dVar, dYes, dgCons, dgNil, dgTup, newT, isL, Option.isSome_some, rowW_1, rowW_2, rowW_3, lstW_1, lstW_2, rowIt_1, rowIt_2, rowIt_3, ixW_1, ixW_2, ixW_3, ixW_4, lenW_1, lenW_2, lenW_3, lenW_4, truW_1, truW_2, truW_3, truW_4, truW_5, truW_6, truW_7, tyW_1, tyW_2, selB_1, selB_2, selI_1, selI_2, selT_1, selT_2, sEq_1, sEq_2, sEq_3, sEq_4, sEq_5, sEq_6, sEq_7, sEq_8, sEq_9, sEq_10, sEq_11, sEq_12, sEq_13, sEq_14, isNon_1, isNon_2, isNon_3, isNon_4, isNon_5, isNon_6, isNon_7, isT_1, dFold, dgSub, dDel, atI_0, atI_1, atI_2, atI_3, atI_4, setI_0, setI_1, setI_2, setI_3, List.set_set, dJoin, dPartn, dSplit, dStrip, dIntT, dJs, dFmt, dStrA, dIsi, dAddA_i, dAddA_s, dAddA_ll, dAddA_lo, dAddA_ol, dAddA_oo, dEqA, dNeA, sEq_ol, sEq_lo, sEq_ll, sEq_tt, sEq_lt, sEq_tl, dInSD, dNever, dRevL, dEnumO, dSlT, dSumA, dFld, dFldS, dFldAug, dMeth, dMake, dTupO, cl_rfl, dIfK, dInID, dIxID, dCntL, dAbs, dMulS, dIsiR, dIndexL, dDisp, dPairs, dDGet2, dRng3, dLcm, dCall1, dCallN])
section
variable {P : Program} {w : World} {K : PySem.W.Frag} {mg : Str → Option Value} {base : Heap}
/-! ## kinds -/
def spIsRow (K : PySem.W.Frag) : Sp := fun vs H Q _ => ∃ v d, vs = [v] ∧ At K H v d ∧ ∀ H', Same H H' → Q (.bl (isRow d)) H'
theorem ok_is_row (T : Txt K mg w) : FnOk P w K mg base CX0 1 T.f_is_row.f T.f_is_row.fd ["thing"] (spIsRow K) := by
  refine T.f_is_row.F.ok sc_is_row (fun vs H Q E h => ?_) (fun cdv A outer s H vs Q E hr h => ?_)
  · obtain ⟨v, d, rfl, _⟩ := h
    rfl
  obtain ⟨v, d, rfl, hv, q⟩ := h
  refine ⟨_, (pss_one (ps_ret (pe_cmpR op_in_ty (pe_callTy call_type1 (by rfl) T.b_type (by decide +kernel) (pa_cons (pv 0) pa_nil)) (pe_tup (pa_cons (pe_bltn (v := .ty "list") (by rfl) T.b_list (by decide +kernel) rfl) (pa_cons (pe_bltn (v := .ty "tuple") (by rfl) T.b_tuple (by decide +kernel) rfl) pa_nil))) (by rfl)))), ?_⟩
  walk_at "rd"
  refine ⟨v, rfl, v, d.ty, rfl, hv.ty, (by show 2 ≤ sizeLine; decide), fun p hp => ?_⟩
  refine ⟨d.ty, p, ["list", "tuple"], rfl, rfl, SqT.of upd_same, ty_known d, by decide, ?_⟩
  have e : decide (d.ty ∈ ["list", "tuple"]) = isRow d := by cases d <;> simp [Dt.ty, isRow]
  rw [e]
  exact q _ (same_upd hp)

def spIsWhole (K : PySem.W.Frag) : Sp := fun vs H Q _ => ∃ v d lo, vs = [v, .int lo] ∧ At K H v d ∧ Q (.bl (isWhole d lo)) H
theorem ok_is_whole (T : Txt K mg w) : FnOk P w K mg base CX0 1 T.f_is_whole.f T.f_is_whole.fd ["thing", "low"] (spIsWhole K) := by
  refine T.f_is_whole.F.ok sc_is_whole (fun vs H Q E h => ?_) (fun cdv A outer s H vs Q E hr h => ?_)
  · obtain ⟨v, d, lo, rfl, _⟩ := h
    rfl
  obtain ⟨v, d, lo, rfl, hv, q⟩ := h
  refine ⟨_, (pss_one (ps_ret (pe_and (pe_cmpR op_isTyB (pe_callTy call_type1 (by rfl) T.b_type (by decide +kernel) (pa_cons (pv 0) pa_nil)) (pe_bltn (v := .ty "int") (by rfl) T.b_int (by decide +kernel) rfl) (nomark _)) (pe_one (pe_cmpR op_ge (pv 0) (pv 1) (nomark _)))))), ?_⟩
  walk_at "rd"
  refine ⟨v, rfl, v, d.ty, rfl, hv.ty, d.ty, "int", rfl, rfl, _, rfl, ite2 (fun e => ?_) (fun e => ?_)⟩
  · have e2 := of_decide_eq_true e
    cases d with
    | int i =>
      unfold At at hv
      subst hv
      exact ⟨_, rfl, _, rfl, i, lo, rfl, rfl, q⟩
    | _ => exact absurd e2 (by simp [Dt.ty])
  · have e2 : isWhole d lo = false := by
      cases d with
      | int i => exact absurd (decide_eq_true rfl) e
      | _ => rfl
    rw [e2] at q
    exact q

def spIsPlain (K : PySem.W.Frag) : Sp := fun vs H Q _ => ∃ v d, vs = [v] ∧ At K H v d ∧ Q (.bl (isPlain d)) H
theorem ok_is_plain (T : Txt K mg w) : FnOk P w K mg base CX0 1 T.f_is_plain.f T.f_is_plain.fd ["thing"] (spIsPlain K) := by
  refine T.f_is_plain.F.ok sc_is_plain (fun vs H Q E h => ?_) (fun cdv A outer s H vs Q E hr h => ?_)
  · obtain ⟨v, d, rfl, _⟩ := h
    rfl
  obtain ⟨v, d, rfl, hv, q⟩ := h
  refine ⟨_, (pss_one (ps_ret (pe_and (pe_cmpR op_isTyB (pe_callTy call_type1 (by rfl) T.b_type (by decide +kernel) (pa_cons (pv 0) pa_nil)) (pe_bltn (v := .ty "str") (by rfl) T.b_str (by decide +kernel) rfl) (nomark _)) (pe_one (pe_cmpR op_eq (pe_m1 PySem.F.slot_str_strip PySem.F.type_str_strip mt_stripChars (pv 0) (pe_c_ALPHABET T)) pe_str (nomark _)))))), ?_⟩
  walk_at "rd"
  refine ⟨v, rfl, v, d.ty, rfl, hv.ty, d.ty, "str", rfl, rfl, _, rfl, ite2 (fun e => ?_) (fun e => ?_)⟩
  · have e2 := of_decide_eq_true e
    cases d with
    | str x =>
      unfold At at hv
      obtain ⟨rfl, hl⟩ := hv
      refine ⟨_, rfl, ⟨_, rfl⟩, _, _, rfl, rfl, (by rw [tx_len]; exact Nat.le_trans hl (by decide)), rfl, ?_⟩
      have e3 : decide (V.str (Txt.stripChars (tx x) ("abcdefghijklmnopqrstuvwxyz" : Str)) = V.str ("" : Str)) = isPlain (.str x) := by
        rw [← tx_alpha, ← tx_nil, Bool.eq_iff_iff, decide_eq_true_iff]
        have := strip_iff x alpha
        constructor
        · intro h
          exact this.mp (V.str.inj h)
        · intro h
          exact congrArg V.str (this.mpr h)
      rw [e3]
      exact q
    | _ => exact absurd e2 (by simp [Dt.ty])
  · have e2 : isPlain d = false := by
      cases d with
      | str i => exact absurd (decide_eq_true rfl) e
      | _ => rfl
    rw [e2] at q
    exact q

def spIsWithin (K : PySem.W.Frag) : Sp := fun vs H Q _ => ∃ v d lo hi, vs = [v, .int lo, .int hi] ∧ At K H v d ∧ Q (.bl (isWithin d lo hi)) H
theorem ok_is_within (T : Txt K mg w) : FnOk P w K mg base CX0 2 T.f_is_within.f T.f_is_within.fd ["thing", "low", "high"] (spIsWithin K) := by
  refine T.f_is_within.F.ok sc_is_within (fun vs H Q E h => ?_) (fun cdv A outer s H vs Q E hr h => ?_)
  · obtain ⟨v, d, lo, hi, rfl, _⟩ := h
    rfl
  obtain ⟨v, d, lo, hi, rfl, hv, q⟩ := h
  refine ⟨_, (pss_one (ps_ret (pe_and (pe_call (ok_is_whole T) (hr.mono (by first | decide | omega)) (by rfl) T.f_is_whole.g T.f_is_whole.F.kp T.f_is_whole.b .nil pass0 (pa_cons (pv 0) (pa_cons (pv 1) pa_nil))) (pe_one (pe_cmpR op_le (pv 0) (pv 2) (nomark _)))))), ?_⟩
  walk_at "rd"
  refine ⟨v, rfl, .int lo, rfl, v, d, lo, rfl, hv, _, rfl, ite2 (fun e => ?_) (fun e => ?_)⟩
  · cases d with
    | int i =>
      unfold At at hv
      subst hv
      rw [show isWithin (.int i) lo hi = (isWhole (.int i) lo && decide (i ≤ hi)) from rfl, e, Bool.true_and] at q
      exact ⟨_, rfl, _, rfl, i, hi, rfl, rfl, q⟩
    | _ => exact absurd e (by simp [isWhole])
  · have e2 : isWithin d lo hi = false := by
      cases d with
      | int i =>
        rw [show isWithin (.int i) lo hi = (isWhole (.int i) lo && decide (i ≤ hi)) from rfl, Bool.eq_false_iff.mpr e, Bool.false_and]
      | _ => rfl
    rw [e2] at q
    exact q

def spStr (f : Dt → Bool) (K : PySem.W.Frag) : Sp := fun vs H Q _ => ∃ v d, vs = [v] ∧ At K H v d ∧ Q (.bl (f d)) H
theorem plain_str {d : Dt} (h : isPlain d = true) : ∃ x, d = .str x ∧ x.all (alpha.contains ·) = true := by
  cases d with
  | str x => exact ⟨x, rfl, h⟩
  | _ => cases h
theorem ok_is_clip (T : Txt K mg w) : FnOk P w K mg base CX0 2 T.f_is_clip.f T.f_is_clip.fd ["thing"] (spStr isClip K) := by
  refine T.f_is_clip.F.ok sc_is_clip (fun vs H Q E h => ?_) (fun cdv A outer s H vs Q E hr h => ?_)
  · obtain ⟨v, d, rfl, _⟩ := h
    rfl
  obtain ⟨v, d, rfl, hv, q⟩ := h
  refine ⟨_, (pss_one (ps_ret (pe_and (pe_call (ok_is_plain T) (hr.mono (by first | decide | omega)) (by rfl) T.f_is_plain.g T.f_is_plain.F.kp T.f_is_plain.b .nil pass0 (pa_cons (pv 0) pa_nil)) (pe_one (pe_cmpR op_le (pe_callB (call_lenK K) (by rfl) T.b_len (by decide +kernel) (pa_cons (pv 0) pa_nil)) (pe_c_LONGEST_WORD T) (nomark _)))))), ?_⟩
  walk_at "rd"
  refine ⟨v, rfl, v, d, rfl, hv, _, rfl, ite2 (fun e => ?_) (fun e => ?_)⟩
  · obtain ⟨x, rfl, hx⟩ := plain_str e
    unfold At at hv
    obtain ⟨rfl, hl⟩ := hv
    refine ⟨_, rfl, len_tx hl ⟨_, _, rfl, rfl, ?_⟩⟩
    have e3 : decide ((x.length : Int) ≤ 60) = isClip (.str x) := by
      rw [show isClip (.str x) = (isPlain (.str x) && decide (x.length ≤ 60)) from rfl, e, Bool.true_and, Bool.eq_iff_iff, decide_eq_true_iff, decide_eq_true_iff]
      omega
    rw [← e3] at q
    exact q
  · have e2 : isClip d = false := by
      cases d with
      | str x =>
        rw [show isClip (.str x) = (isPlain (.str x) && decide (x.length ≤ 60)) from rfl, Bool.eq_false_iff.mpr e, Bool.false_and]
      | _ => rfl
    rw [e2] at q
    exact q
theorem ok_is_word (T : Txt K mg w) : FnOk P w K mg base CX0 3 T.f_is_word.f T.f_is_word.fd ["thing"] (spStr isWord K) := by
  refine T.f_is_word.F.ok sc_is_word (fun vs H Q E h => ?_) (fun cdv A outer s H vs Q E hr h => ?_)
  · obtain ⟨v, d, rfl, _⟩ := h
    rfl
  obtain ⟨v, d, rfl, hv, q⟩ := h
  refine ⟨_, (pss_one (ps_ret (pe_and (pe_call (ok_is_clip T) (hr.mono (by first | decide | omega)) (by rfl) T.f_is_clip.g T.f_is_clip.F.kp T.f_is_clip.b .nil pass0 (pa_cons (pv 0) pa_nil)) (pe_one (pe_cmpR op_ne (pv 0) pe_str (nomark _)))))), ?_⟩
  walk_at "rd"
  refine ⟨v, rfl, v, d, rfl, hv, _, rfl, ite2 (fun e => ?_) (fun e => ?_)⟩
  · cases d with
    | str x =>
      unfold At at hv
      obtain ⟨rfl, hl⟩ := hv
      refine ⟨_, rfl, rfl, ?_⟩
      have e3 : (!decide (V.str (tx x) = V.str ("" : Str))) = isWord (.str x) := by
        rw [show isWord (.str x) = (isClip (.str x) && decide (x ≠ [])) from rfl, e, Bool.true_and, ← tx_nil, Bool.eq_iff_iff, Bool.not_eq_true', decide_eq_false_iff_not, decide_eq_true_iff, tx_eq]
      rw [e3]
      exact q
    | _ => cases e
  · have e2 : isWord d = false := by
      cases d with
      | str x =>
        rw [show isWord (.str x) = (isClip (.str x) && decide (x ≠ [])) from rfl, Bool.eq_false_iff.mpr e, Bool.false_and]
      | _ => rfl
    rw [e2] at q
    exact q

/-! ## pieces -/
def spIsPiece (f : Dt → Bool) (K : PySem.W.Frag) : Sp := fun vs H Q _ => ∃ v d, vs = [v] ∧ At K H v d ∧ ∀ H', Same H H' → Q (.bl (f d)) H'
def spCheckText (K : PySem.W.Frag) : Sp := fun vs H Q _ => ∃ v d, vs = [v] ∧ At K H v d ∧ isText d = true ∧ ∀ H', Same H H' → Q .non H'
def spCheckLetter (K : PySem.W.Frag) : Sp := fun vs H Q _ => ∃ c, vs = [.str (tx [c])] ∧ alpha.contains c = true ∧ Q .non H

theorem six_neg {n len d : Nat} (h : 1 ≤ n) : HT.sIx len d (some (-(n : Int))) = len - n := by
  show (if (-(n : Int)) < 0 then (-(n : Int) + (len : Int)).toNat else min (-(n : Int)).toNat len) = len - n
  rw [if_pos (by omega)]
  omega
theorem cut_near (xs : List V) {n : Nat} (h : 1 ≤ n) : cutV xs (some (-(n : Int))) none = xs.drop (xs.length - n) := by
  unfold cutV
  rw [six_neg h]
  show (xs.drop (xs.length - n)).take (xs.length - (xs.length - n)) = _
  rw [List.take_of_length_le]
  rw [List.length_drop]
  omega
def spNearest : Sp := fun vs H Q _ => ∃ (a : Addr) (n : Nat) (xs : List V), vs = [.ref a, .int n] ∧ 1 ≤ n ∧ H a = some (.lst xs) ∧ ∀ p, H p = none → Q (.ref p) (upd H p (.lst (near xs n)))
def spTake : Sp := fun vs H Q _ => ∃ (a : Addr) (n : Nat) (xs : List V), vs = [.ref a, .int n] ∧ 1 ≤ n ∧ H a = some (.lst xs) ∧ ∀ p, H p = none → p ≠ a → Q (.ref p) (upd (upd H p (.lst (near xs n))) a (.lst (rest xs n)))
theorem st_no {x y : Str} {A B : Prop} (h : x ≠ y) (b : B) : ∃ k, V.bl (decide (V.str x = V.str y)) = .bl k ∧ if k = true then A else B := ⟨_, rfl, by rw [decide_eq_false (fun e => h (V.str.inj e)), if_neg Bool.false_ne_true]; exact b⟩
theorem st_yes {x : Str} {A B : Prop} (a : A) : ∃ k, V.bl (decide (V.str x = V.str x)) = .bl k ∧ if k = true then A else B := ⟨_, rfl, by rw [decide_eq_true rfl, if_pos rfl]; exact a⟩
def sdV (s : Sd V) (H : Hp) (a b c : Addr) : Prop := H a = some (.lst s.l) ∧ H b = some (.lst s.r) ∧ H c = some (.lst s.c) ∧ a ≠ b ∧ a ≠ c ∧ b ≠ c
def spDoKey (K : PySem.W.Frag) : Sp := fun vs H Q _ => ∃ (kv : V) (k : Ky) (a b c : Addr) (s : Sd V), vs = [kv, .ref a, .ref b, .ref c] ∧ KeyAt K H kv k ∧ k.ok ∧ sdV s H a b c ∧ s.size + s.c.length + 60 ≤ 2000000 ∧
  ∀ p H', (∀ x o, x ≠ a → x ≠ b → H x = some o → H' x = some o) → sdV (step lV k s) H' a b p → Q (.ref p) H'

theorem prd_rel {α β : Type} {R : α → β → Prop} : ∀ {xs : List α} {ys : List β} {i : Nat} {x : α} {y : β}, Paired R xs ys → xs[i]? = some x → ys[i]? = some y → R x y
  | _, _, i, x, y, .nil, h, _ => by simp at h
  | _, _, 0, x, y, .cons r _, h1, h2 => by
    have e1 := Option.some.inj h1
    have e2 := Option.some.inj h2
    rw [← e1, ← e2]
    exact r
  | _, _, i + 1, x, y, .cons _ t, h1, h2 => prd_rel t (by simpa using h1) (by simpa using h2)
def spKeyWeight (K : PySem.W.Frag) : Sp := fun vs H Q _ => ∃ kv k, vs = [kv] ∧ KeyAt K H kv k ∧ k.ok ∧ Q (.int k.wt) H
theorem ok_key_weight (T : Txt K mg w) : FnOk P w K mg base CX0 1 T.f_key_weight.f T.f_key_weight.fd ["key"] (spKeyWeight K) := by
  refine T.f_key_weight.F.ok sc_key_weight (fun vs H Q E h => ?_) (fun cdv A outer s H vs Q E hr h => ?_)
  · obtain ⟨kv, k, rfl, _⟩ := h
    rfl
  obtain ⟨kv, k, rfl, ⟨u, rfl, hk⟩, hok, q⟩ := h
  refine ⟨_, (pss_cons (ps_if (pt_cmpR op_eq (pe_ix ix_seq (pv 0) pe_int (fun _ _ => rfl)) pe_str (nomark _)) (pss_one (ps_ret pe_int)) pss_nil)
      (pss_cons (ps_if (pt_cmpR op_eq (pe_ix ix_seq (pv 0) pe_int (fun _ _ => rfl)) pe_str (nomark _)) (pss_one (ps_ret (pe_callB (call_lenK K) (by rfl) T.b_len (by decide +kernel) (pa_cons (pe_ix ix_seq (pv 0) pe_int (fun _ _ => rfl)) pa_nil)))) pss_nil)
      (pss_one (ps_ret (pe_ix ix_seq (pv 0) pe_int (fun _ _ => rfl)))))), ?_⟩
  walk_at "rd"
  cases k with
  | write w => exact ⟨_, rfl, ix_row hk (at_ofA (j := 0) rfl rfl) ⟨rfl, st_no (by decide) ⟨_, rfl, ix_row hk (at_ofA (j := 0) rfl rfl) ⟨rfl, st_yes ⟨_, rfl, ix_row hk (at_ofA (j := 1) rfl rfl) (len_tx (Nat.le_trans hok.2.1 (by decide)) q)⟩⟩⟩⟩⟩
  | paste => exact ⟨_, rfl, ix_row hk (at_ofA (j := 0) rfl rfl) ⟨rfl, st_yes q⟩⟩
  | left n | right n | strike n | rub n | copy n | cut n => exact ⟨_, rfl, ix_row hk (at_ofA (j := 0) rfl rfl) ⟨rfl, st_no (by decide) ⟨_, rfl, ix_row hk (at_ofA (j := 0) rfl rfl) ⟨rfl, st_no (by decide) ⟨_, rfl, ix_row hk (at_ofA (j := 1) rfl rfl) q⟩⟩⟩⟩⟩
def spWeigh (K : PySem.W.Frag) : Sp := fun vs H Q _ => ∃ hv ks, vs = [hv] ∧ HandAt K H hv ks ∧ (∀ k ∈ ks, k.ok) ∧ ks.length ≤ 60 ∧ ∀ H', Same H H' → Q (.int (hwt ks : Nat)) H'
theorem hwt_sum : ∀ ks : List Ky, (ks.map fun k => (k.wt : Int)).sum = (hwt ks : Nat)
  | [] => rfl
  | k :: ks => by
    rw [List.map_cons, List.sum_cons, hwt_sum ks, hwt_cons]
    omega
theorem ok_weigh (T : Txt K mg w) : FnOk P w K mg base CX0 2 T.f_weigh.f T.f_weigh.fd ["keys"] (spWeigh K) := by
  refine T.f_weigh.F.ok sc_weigh (fun vs H Q E h => ?_) (fun cdv A outer s H vs Q E hr h => ?_)
  · obtain ⟨hv, ks, rfl, _⟩ := h
    rfl
  obtain ⟨hv, ks, rfl, ⟨a, xs, rfl, hrow, hp⟩, hok, hl, q⟩ := h
  refine ⟨_, (pss_one (ps_ret (pe_callB (cr_sum rfl) (by rfl) T.b_sum (by decide +kernel) (pa_cons (pe_lc (own := [("key", 1)]) rfl sc_weigh.nd (pi_seq (pv 0)) (blkOk_by (own := [("key", 1)]) (N := N_weigh) (sc := defScope s_weigh) (by decide +kernel)) (fun _ _ _ _ _ => (pg_name (i := 1) sc_weigh.nd rfl (.inl rfl))) (fun _ _ _ _ _ => pts_nil) (fun _ _ _ _ _ => (pe_call (ok_key_weight T) (hr.mono (by first | decide | omega)) (by rfl) T.f_key_weight.g T.f_key_weight.F.kp T.f_key_weight.b .nil pass0 (pa_cons (pv 1) pa_nil)))) pa_nil)))), ?_⟩
  walk_at "rd"
  have hlen : xs.length = ks.length := prd_len hp
  refine lc_rowN (a := a) (xs := xs) (ys := (ks.map fun k => (k.wt : Int)).map V.int) rfl hrow (by rw [List.length_map, List.length_map]; exact hlen) ?_ (fun _ => rfl) (fun _ _ _ h => h) (fun i x y H' hx hy s1 R hR => ?_) (fun D H' s1 nD hD => ?_)
  · rw [List.length_map, List.length_map]
    exact Nat.lt_of_le_of_lt hl (by decide)
  · obtain ⟨k, hk, r⟩ := prd_at hp hx
    rw [List.getElem?_map, List.getElem?_map, hk] at hy
    have hy := Option.some.inj hy
    subst hy
    exact ⟨_, rfl, x, k, rfl, r.same s1, hok k (List.mem_of_getElem? hk), hR _ (Same.refl _)⟩
  · refine ⟨D, _, rfl, SqL.of hD, ?_⟩
    rw [hwt_sum]
    exact q _ s1

def nm (z : Str) : List Nat := z.cps.toList
def Ky.kn : Ky → Str
  | .write _ => "write"
  | .paste => "paste"
  | .left _ => "left"
  | .right _ => "right"
  | .strike _ => "strike"
  | .rub _ => "rub"
  | .copy _ => "copy"
  | .cut _ => "cut"
theorem kn_names : ∀ z ∈ (["write", "paste", "left", "right", "strike", "rub", "copy", "cut"] : List Str), (nm z).all (alpha.contains ·) = true ∧ (nm z).length ≤ 10 := by decide +kernel
theorem kn_plain (k : Ky) : (nm k.kn).all (alpha.contains ·) = true ∧ (nm k.kn).length ≤ 1000000 := by
  have h := kn_names k.kn (by cases k <;> simp [Ky.kn])
  exact ⟨h.1, Nat.le_trans h.2 (by decide)⟩
def kD : Ky → List Dt
  | .write w => [.str (nm "write"), .str w]
  | .paste => [.str (nm "paste")]
  | .left n => [.str (nm "left"), .int n]
  | .right n => [.str (nm "right"), .int n]
  | .strike n => [.str (nm "strike"), .int n]
  | .rub n => [.str (nm "rub"), .int n]
  | .copy n => [.str (nm "copy"), .int n]
  | .cut n => [.str (nm "cut"), .int n]
theorem at_str {K : PySem.W.Frag} {H : Hp} (z : Str) (h : (nm z).length ≤ 1000000) : At K H (.str z) (.str (nm z)) := by
  unfold At
  exact ⟨by unfold nm; rw [tx_of], h⟩
theorem ats_key {K : PySem.W.Frag} {H : Hp} (k : Ky) (hk : k.ok) : Ats K H k.vs (kD k) := by
  have h1 := (kn_plain k).2
  have hi : ∀ n : Nat, At K H (.int n) (.int n) := fun n => by unfold At; rfl
  have h0 : Ats K H [] [] := by unfold Ats; rfl
  have h2 : ∀ {v u : V} {c d : Dt}, At K H v c → At K H u d → Ats K H [v, u] [c, d] := fun a b => by
    unfold Ats
    refine ⟨_, _, rfl, a, ?_⟩
    unfold Ats
    exact ⟨_, _, rfl, b, h0⟩
  cases k with
  | write w => exact h2 (at_str "write" h1) (by unfold At; exact ⟨rfl, Nat.le_trans hk.2.1 (by decide)⟩)
  | paste =>
    show Ats K H [.str "paste"] [.str (nm "paste")]
    unfold Ats
    exact ⟨_, _, rfl, at_str "paste" h1, h0⟩
  | left n => exact h2 (at_str "left" h1) (hi n)
  | right n => exact h2 (at_str "right" h1) (hi n)
  | strike n => exact h2 (at_str "strike" h1) (hi n)
  | rub n => exact h2 (at_str "rub" h1) (hi n)
  | copy n => exact h2 (at_str "copy" h1) (hi n)
  | cut n => exact h2 (at_str "cut" h1) (hi n)
theorem at_key {K : PySem.W.Frag} {H : Hp} {v : V} {k : Ky} (h : KeyAt K H v k) (hk : k.ok) : ∃ d, At K H v d ∧ isRow d = true := by
  obtain ⟨a, rfl, h⟩ := h
  rcases h with h | h
  · exact ⟨.lst (kD k), by unfold At; exact ⟨a, _, rfl, h, ats_key k hk⟩, rfl⟩
  · exact ⟨.tup (kD k), by unfold At; exact ⟨a, _, rfl, h, ats_key k hk⟩, rfl⟩
theorem vs_0 : ∀ k : Ky, k.vs[0]? = some (.str k.kn)
  | .write _ | .paste | .left _ | .right _ | .strike _ | .rub _ | .copy _ | .cut _ => rfl
theorem vs_len (k : Ky) : ¬ ((k.vs.length : Int) = 0) := by cases k <;> simp [Ky.vs] <;> omega
theorem iteN {A B : Prop} {b : Bool} (h : b = false) (q : B) : (if b = true then A else B) := by rw [h, if_neg Bool.false_ne_true]; exact q
theorem iteY {A B : Prop} {b : Bool} (h : b = true) (q : A) : (if b = true then A else B) := by rw [h, if_pos rfl]; exact q
def spIsKey (K : PySem.W.Frag) : Sp := fun vs H Q _ => ∃ kv k, vs = [kv] ∧ KeyAt K H kv k ∧ k.ok ∧ ∀ H', Same H H' → Q (.bl true) H'
theorem ok_is_key (T : Txt K mg w) : FnOk P w K mg base CX0 4 T.f_is_key.f T.f_is_key.fd ["thing"] (spIsKey K) := by
  refine T.f_is_key.F.ok sc_is_key (fun vs H Q E h => ?_) (fun cdv A outer s H vs Q E hr h => ?_)
  · obtain ⟨kv, k, rfl, _⟩ := h
    rfl
  obtain ⟨kv, k, rfl, hk, hok, q⟩ := h
  obtain ⟨d, hd, hd2⟩ := at_key hk hok
  obtain ⟨u, rfl, hrow⟩ := hk
  refine ⟨_, (pss_cons (ps_if (PW.pt (pw_or (pt_not (pt_val (pe_call (ok_is_row T) (hr.mono (by first | decide | omega)) (by rfl) T.f_is_row.g T.f_is_row.F.kp T.f_is_row.b .nil pass0 (pa_cons (pv 0) pa_nil)))) (pw_or (pt_cmpR op_eq (pe_callB (call_lenK K) (by rfl) T.b_len (by decide +kernel) (pa_cons (pv 0) pa_nil)) pe_int (nomark _)) (pw_or1 (pt_not (pt_val (pe_call (ok_is_plain T) (hr.mono (by first | decide | omega)) (by rfl) T.f_is_plain.g T.f_is_plain.F.kp T.f_is_plain.b .nil pass0 (pa_cons (pe_ix ix_seq (pv 0) pe_int (fun _ _ => rfl)) pa_nil)))))))) (pss_one (ps_ret pe_bl)) pss_nil)
      (pss_cons (ps_if (pt_cmpR op_eq (pe_ix ix_seq (pv 0) pe_int (fun _ _ => rfl)) pe_str (nomark _)) (pss_one (ps_ret (pe_cmpR op_eq (pe_callB (call_lenK K) (by rfl) T.b_len (by decide +kernel) (pa_cons (pv 0) pa_nil)) pe_int (nomark _)))) pss_nil)
      (pss_cons (ps_if (pt_cmpR op_ne (pe_callB (call_lenK K) (by rfl) T.b_len (by decide +kernel) (pa_cons (pv 0) pa_nil)) pe_int (nomark _)) (pss_one (ps_ret pe_bl)) pss_nil)
      (pss_cons (ps_if (pt_cmpR op_eq (pe_ix ix_seq (pv 0) pe_int (fun _ _ => rfl)) pe_str (nomark _)) (pss_one (ps_ret (pe_call (ok_is_word T) (hr.mono (by first | decide | omega)) (by rfl) T.f_is_word.g T.f_is_word.F.kp T.f_is_word.b .nil pass0 (pa_cons (pe_ix ix_seq (pv 0) pe_int (fun _ _ => rfl)) pa_nil)))) pss_nil)
      (pss_one (ps_ret (pe_and (pe_cmpR (op_in_sd T.c_SIDES) (pe_ix ix_seq (pv 0) pe_int (fun _ _ => rfl)) (pe_sd T.c_SIDES (by rfl) (by decide)) (by rfl)) (pe_one (pe_call (ok_is_whole T) (hr.mono (by first | decide | omega)) (by rfl) T.f_is_whole.g T.f_is_whole.F.kp T.f_is_whole.b .nil pass0 (pa_cons (pe_ix ix_seq (pv 0) pe_int (fun _ _ => rfl)) (pa_cons pe_int pa_nil))))))))))), ?_⟩
  walk_at "rd"
  refine ⟨_, rfl, _, d, rfl, hd, fun H1 s1 => ⟨_, rfl, ?_⟩⟩
  have hrow1 := hrow.same s1
  rw [hd2]
  refine iteN rfl ⟨_, rfl, len_row hrow1 ⟨rfl, _, rfl, iteN (decide_eq_false (fun e => vs_len k (V.int.inj e))) ⟨_, rfl, ix_row hrow1 (at_ofA (j := 0) rfl (vs_0 k)) ⟨_, _, rfl, at_str k.kn (kn_plain k).2, _, rfl, ?_⟩⟩⟩⟩
  have hp : isPlain (.str (nm k.kn)) = true := (kn_plain k).1
  rw [hp]
  refine iteN rfl ?_
  have two : ∀ {x y : V}, Row K H1 u [x, y] → ∀ {A : Prop} {R : VK}, (∀ b, b = false → R (.bl b) H1) → rLenA K [.ref u] H1 fun x H1 => rNe x (V.int 2) H1 R := fun h _ R q => len_row h ⟨rfl, q _ (by rw [decide_eq_true (show V.int (([_, _] : List V).length : Int) = V.int 2 from rfl)]; rfl)⟩
  cases k with
  | write w =>
    refine ⟨_, rfl, ix_row hrow1 (at_ofA (j := 0) rfl rfl) ⟨rfl, st_no (by decide) ⟨_, rfl, two hrow1 (A := True) fun b hb => ⟨_, rfl, iteN hb ⟨_, rfl, ix_row hrow1 (at_ofA (j := 0) rfl rfl) ⟨rfl, st_yes ?_⟩⟩⟩⟩⟩⟩
    refine ⟨_, rfl, ix_row hrow1 (at_ofA (j := 1) rfl rfl) ⟨_, .str w, rfl, by unfold At; exact ⟨rfl, Nat.le_trans hok.2.1 (by decide)⟩, ?_⟩⟩
    have e : isWord (.str w) = true := by
      show ((w.all (alpha.contains ·) && decide (w.length ≤ 60)) && decide (w ≠ [])) = true
      rw [show w.all (alpha.contains ·) = true from hok.2.2, decide_eq_true hok.2.1, decide_eq_true hok.1]
      rfl
    rw [e]
    exact q _ s1
  | paste =>
    refine ⟨_, rfl, ix_row hrow1 (at_ofA (j := 0) rfl rfl) ⟨rfl, st_yes ⟨_, rfl, len_row hrow1 ⟨rfl, ?_⟩⟩⟩⟩
    rw [decide_eq_true (show V.int ((Ky.paste.vs.length : Nat) : Int) = V.int 1 from rfl)]
    exact q _ s1
  | left n | right n | strike n | rub n | copy n | cut n =>
    refine ⟨_, rfl, ix_row hrow1 (at_ofA (j := 0) rfl rfl) ⟨rfl, st_no (by decide) ⟨_, rfl, two hrow1 (A := True) fun b hb => ⟨_, rfl, iteN hb ⟨_, rfl, ix_row hrow1 (at_ofA (j := 0) rfl rfl) ⟨rfl, st_no (by decide) ?_⟩⟩⟩⟩⟩⟩
    refine ⟨_, rfl, ix_row hrow1 (at_ofA (j := 0) rfl rfl) ⟨_, rfl, rfl, _, rfl, iteY (by decide) ?_⟩⟩
    refine ⟨_, rfl, ix_row hrow1 (at_ofA (j := 1) rfl rfl) ⟨_, .int n, 1, rfl, by unfold At; rfl, ?_⟩⟩
    have hn : 1 ≤ n := hok
    rw [show isWhole (.int n) 1 = true from decide_eq_true (by omega)]
    exact q _ s1
theorem at_hand {K : PySem.W.Frag} {H : Hp} {v : V} {ks : List Ky} (h : HandAt K H v ks) (hk : ∀ k ∈ ks, k.ok) : ∃ d, At K H v d ∧ isRow d = true := by
  obtain ⟨a, xs, rfl, h, hp⟩ := h
  have hx : ∃ ds, Ats K H xs ds := by
    clear h
    induction hp with
    | nil => exact ⟨[], by unfold Ats; rfl⟩
    | cons r t ih =>
      obtain ⟨ds, hd⟩ := ih fun k hk' => hk k (List.mem_cons_of_mem _ hk')
      obtain ⟨d, h1, _⟩ := at_key r (hk _ (List.mem_cons_self ..))
      exact ⟨d :: ds, by unfold Ats; exact ⟨_, _, rfl, h1, hd⟩⟩
  obtain ⟨ds, hd⟩ := hx
  rcases h with h | h
  · exact ⟨.lst ds, by unfold At; exact ⟨a, _, rfl, h, hd⟩, rfl⟩
  · exact ⟨.tup ds, by unfold At; exact ⟨a, _, rfl, h, hd⟩, rfl⟩
def spIsHand (K : PySem.W.Frag) : Sp := fun vs H Q _ => ∃ hv ks, vs = [hv] ∧ HandAt K H hv ks ∧ GoodH ks ∧ ∀ H', Same H H' → Q (.bl true) H'
theorem ok_is_hand (T : Txt K mg w) : FnOk P w K mg base CX0 5 T.f_is_hand.f T.f_is_hand.fd ["thing"] (spIsHand K) := by
  refine T.f_is_hand.F.ok sc_is_hand (fun vs H Q E h => ?_) (fun cdv A outer s H vs Q E hr h => ?_)
  · obtain ⟨hv, ks, rfl, _⟩ := h
    rfl
  obtain ⟨hv, ks, rfl, hh, hg, q⟩ := h
  obtain ⟨d, hd, hd2⟩ := at_hand hh hg.ok
  refine ⟨_, (pss_cons (ps_if (PW.pt (pw_or (pt_not (pt_val (pe_call (ok_is_row T) (hr.mono (by first | decide | omega)) (by rfl) T.f_is_row.g T.f_is_row.F.kp T.f_is_row.b .nil pass0 (pa_cons (pv 0) pa_nil)))) (pw_or1 (pt_cmpR op_gt (pe_callB (call_lenK K) (by rfl) T.b_len (by decide +kernel) (pa_cons (pv 0) pa_nil)) (pe_c_HEAVIEST T) (nomark _))))) (pss_one (ps_ret pe_bl)) pss_nil)
      (pss_one (ps_ret (pe_and (pe_callB (cr_all rfl) (by rfl) T.b_all (by decide +kernel) (pa_cons (pe_lc (own := [("key", 1)]) rfl sc_is_hand.nd (pi_seq (pv 0)) (blkOk_by (own := [("key", 1)]) (N := N_is_hand) (sc := defScope s_is_hand) (by decide +kernel)) (fun _ _ _ _ _ => (pg_name (i := 1) sc_is_hand.nd rfl (.inl rfl))) (fun _ _ _ _ _ => pts_nil) (fun _ _ _ _ _ => (pe_call (ok_is_key T) (hr.mono (by first | decide | omega)) (by rfl) T.f_is_key.g T.f_is_key.F.kp T.f_is_key.b .nil pass0 (pa_cons (pv 1) pa_nil)))) pa_nil)) (pe_one (pe_cmpR op_le (pe_call (ok_weigh T) (hr.mono (by first | decide | omega)) (by rfl) T.f_weigh.g T.f_weigh.F.kp T.f_weigh.b .nil pass0 (pa_cons (pv 0) pa_nil)) (pe_c_HEAVIEST T) (nomark _))))))), ?_⟩
  walk_at "rd"
  refine ⟨_, rfl, _, d, rfl, hd, fun H1 s1 => ⟨_, rfl, ?_⟩⟩
  have hh1 := hh.same s1
  obtain ⟨a, xs, rfl, hrow, hp⟩ := hh1
  have hlen : xs.length = ks.length := prd_len hp
  have hfew := hg.few
  rw [hd2]
  refine iteN rfl ⟨_, rfl, len_row hrow ⟨_, _, rfl, rfl, _, rfl, iteN (decide_eq_false (by omega)) ?_⟩⟩
  refine lc_rowN (a := a) (xs := xs) (ys := (ks.map fun _ => true).map V.bl) rfl hrow (by rw [List.length_map, List.length_map]; exact hlen) ?_ (fun _ => rfl) (fun _ _ _ h => h) (fun i x y H' hx hy s2 R hR => ?_) (fun D H' s2 nD hD => ?_)
  · rw [List.length_map, List.length_map]
    exact Nat.lt_of_le_of_lt hfew (by decide)
  · obtain ⟨k, hk, r⟩ := prd_at hp hx
    rw [List.getElem?_map, List.getElem?_map, hk] at hy
    have hy := Option.some.inj hy
    subst hy
    exact ⟨_, rfl, x, k, rfl, r.same s2, hg.ok k (List.mem_of_getElem? hk), fun H4 s4 => hR _ s4⟩
  · refine ⟨D, _, rfl, SqL.of hD, _, rfl, iteY ?_ ⟨_, rfl, _, ks, rfl, (hh.same s1).same s2, hg.ok, hfew, fun H3 s3 => ⟨_, _, rfl, rfl, ?_⟩⟩⟩
    · rw [List.all_map]
      simp
    · have := hg.wt
      show Q (.bl (decide ((hwt ks : Int) ≤ 60))) H3
      rw [decide_eq_true (by omega)]
      exact q _ ((s1.trans s2).trans s3)
def spCheckHand (K : PySem.W.Frag) : Sp := fun vs H Q _ => ∃ hv ks, vs = [hv] ∧ HandAt K H hv ks ∧ GoodH ks ∧ ∀ H', Same H H' → Q .non H'
theorem ok_check_hand (T : Txt K mg w) : FnOk P w K mg base CX0 6 T.f_check_hand.f T.f_check_hand.fd ["thing"] (spCheckHand K) := by
  refine T.f_check_hand.F.ok sc_check_hand (fun vs H Q E h => ?_) (fun cdv A outer s H vs Q E hr h => ?_)
  · obtain ⟨hv, ks, rfl, _⟩ := h
    rfl
  obtain ⟨hv, ks, rfl, hh, hg, q⟩ := h
  refine ⟨_, (pss_one (ps_if (pt_not (pt_val (pe_call (ok_is_hand T) (hr.mono (by first | decide | omega)) (by rfl) T.f_is_hand.g T.f_is_hand.F.kp T.f_is_hand.b .nil pass0 (pa_cons (pv 0) pa_nil)))) (pss_one ps_never) pss_nil)), ?_⟩
  walk_at "rd"
  exact ⟨_, rfl, _, ks, rfl, hh, hg, fun H1 s1 => ⟨_, rfl, iteN rfl (q _ s1)⟩⟩

/-! ### sheets -/
structure Sh where
  w : List Nat
  n : Nat
  k : List Nat
structure GoodS (s : Sh) : Prop where
  w : Plain s.w
  n : s.n ≤ s.w.length
  k : Plain s.k
  kl : s.k.length ≤ 60
  wl : s.w.length ≤ 1000000
def Sh.vs (s : Sh) : List V := [.str (tx s.w), .int s.n, .str (tx s.k)]
def SheetAt (K : PySem.W.Frag) (H : Hp) (v : V) (s : Sh) : Prop := ∃ a, v = .ref a ∧ Row K H a s.vs
theorem SheetAt.same {K : PySem.W.Frag} {H H' : Hp} {v : V} {s} (e : Same H H') (h : SheetAt K H v s) : SheetAt K H' v s := by
  obtain ⟨a, rfl, h⟩ := h
  exact ⟨a, rfl, h.same e⟩
theorem at_sheet {K : PySem.W.Frag} {H : Hp} {v : V} {s : Sh} (h : SheetAt K H v s) (hs : GoodS s) : ∃ d, At K H v d ∧ isRow d = true := by
  obtain ⟨a, rfl, h⟩ := h
  have hd : Ats K H s.vs [.str s.w, .int s.n, .str s.k] := by
    unfold Ats
    refine ⟨_, _, rfl, by unfold At; exact ⟨rfl, hs.wl⟩, ?_⟩
    unfold Ats
    refine ⟨_, _, rfl, by unfold At; rfl, ?_⟩
    unfold Ats
    refine ⟨_, _, rfl, by unfold At; exact ⟨rfl, Nat.le_trans hs.kl (by decide)⟩, ?_⟩
    unfold Ats
    rfl
  rcases h with h | h
  · exact ⟨.lst _, by unfold At; exact ⟨a, _, rfl, h, hd⟩, rfl⟩
  · exact ⟨.tup _, by unfold At; exact ⟨a, _, rfl, h, hd⟩, rfl⟩
def spIsSheet (K : PySem.W.Frag) : Sp := fun vs H Q _ => ∃ v s, vs = [v] ∧ SheetAt K H v s ∧ GoodS s ∧ ∀ H', Same H H' → Q (.bl true) H'
theorem ok_is_sheet (T : Txt K mg w) : FnOk P w K mg base CX0 3 T.f_is_sheet.f T.f_is_sheet.fd ["thing"] (spIsSheet K) := by
  refine T.f_is_sheet.F.ok sc_is_sheet (fun vs H Q E h => ?_) (fun cdv A outer s H vs Q E hr h => ?_)
  · obtain ⟨v, s, rfl, _⟩ := h
    rfl
  obtain ⟨v, s, rfl, hh, hg, q⟩ := h
  obtain ⟨d, hd, hd2⟩ := at_sheet hh hg
  refine ⟨_, (pss_cons (ps_if (PW.pt (pw_or (pt_not (pt_val (pe_call (ok_is_row T) (hr.mono (by first | decide | omega)) (by rfl) T.f_is_row.g T.f_is_row.F.kp T.f_is_row.b .nil pass0 (pa_cons (pv 0) pa_nil)))) (pw_or (pt_cmpR op_ne (pe_callB (call_lenK K) (by rfl) T.b_len (by decide +kernel) (pa_cons (pv 0) pa_nil)) pe_int (nomark _)) (pw_or1 (pt_not (pt_val (pe_call (ok_is_plain T) (hr.mono (by first | decide | omega)) (by rfl) T.f_is_plain.g T.f_is_plain.F.kp T.f_is_plain.b .nil pass0 (pa_cons (pe_ix ix_seq (pv 0) pe_int (fun _ _ => rfl)) pa_nil)))))))) (pss_one (ps_ret pe_bl)) pss_nil)
      (pss_one (ps_ret (pe_and (pe_call (ok_is_within T) (hr.mono (by first | decide | omega)) (by rfl) T.f_is_within.g T.f_is_within.F.kp T.f_is_within.b .nil pass0 (pa_cons (pe_ix ix_seq (pv 0) pe_int (fun _ _ => rfl)) (pa_cons pe_int (pa_cons (pe_callB (call_lenK K) (by rfl) T.b_len (by decide +kernel) (pa_cons (pe_ix ix_seq (pv 0) pe_int (fun _ _ => rfl)) pa_nil)) pa_nil)))) (pe_one (pe_call (ok_is_clip T) (hr.mono (by first | decide | omega)) (by rfl) T.f_is_clip.g T.f_is_clip.F.kp T.f_is_clip.b .nil pass0 (pa_cons (pe_ix ix_seq (pv 0) pe_int (fun _ _ => rfl)) pa_nil))))))), ?_⟩
  walk_at "rd"
  refine ⟨_, rfl, _, d, rfl, hd, fun H1 s1 => ⟨_, rfl, ?_⟩⟩
  obtain ⟨a, rfl, hrow⟩ := hh.same s1
  rw [hd2]
  refine iteN rfl ⟨_, rfl, len_row hrow ⟨rfl, _, rfl, iteN (by rw [decide_eq_true (show V.int ((s.vs.length : Nat) : Int) = V.int 3 from rfl)]; rfl) ?_⟩⟩
  refine ⟨_, rfl, ix_row hrow (at_ofA (j := 0) rfl rfl) ⟨_, .str s.w, rfl, by unfold At; exact ⟨rfl, hg.wl⟩, _, rfl, ?_⟩⟩
  rw [show isPlain (.str s.w) = true from hg.w]
  refine iteN rfl ?_
  refine ⟨_, rfl, ix_row hrow (at_ofA (j := 1) rfl rfl) ⟨_, rfl, ix_row hrow (at_ofA (j := 0) rfl rfl) (len_tx hg.wl ⟨_, .int s.n, 0, s.w.length, rfl, by unfold At; rfl, _, rfl, iteY ?_ ?_⟩)⟩⟩
  · have := hg.n
    show (decide ((0 : Int) ≤ (s.n : Int)) && decide ((s.n : Int) ≤ (s.w.length : Int))) = true
    rw [decide_eq_true (by omega), decide_eq_true (by omega)]
    rfl
  · refine ⟨_, rfl, ix_row hrow (at_ofA (j := 2) rfl rfl) ⟨_, .str s.k, rfl, by unfold At; exact ⟨rfl, Nat.le_trans hg.kl (by decide)⟩, ?_⟩⟩
    have e : isClip (.str s.k) = true := by
      show (s.k.all (alpha.contains ·) && decide (s.k.length ≤ 60)) = true
      rw [show s.k.all (alpha.contains ·) = true from hg.k, decide_eq_true hg.kl]
      rfl
    rw [e]
    exact q _ s1
def spCheckSheet (K : PySem.W.Frag) : Sp := fun vs H Q _ => ∃ v s, vs = [v] ∧ SheetAt K H v s ∧ GoodS s ∧ ∀ H', Same H H' → Q .non H'
theorem ok_check_sheet (T : Txt K mg w) : FnOk P w K mg base CX0 4 T.f_check_sheet.f T.f_check_sheet.fd ["thing"] (spCheckSheet K) := by
  refine T.f_check_sheet.F.ok sc_check_sheet (fun vs H Q E h => ?_) (fun cdv A outer s H vs Q E hr h => ?_)
  · obtain ⟨v, s, rfl, _⟩ := h
    rfl
  obtain ⟨v, s, rfl, hh, hg, q⟩ := h
  refine ⟨_, (pss_one (ps_if (pt_not (pt_val (pe_call (ok_is_sheet T) (hr.mono (by first | decide | omega)) (by rfl) T.f_is_sheet.g T.f_is_sheet.F.kp T.f_is_sheet.b .nil pass0 (pa_cons (pv 0) pa_nil)))) (pss_one ps_never) pss_nil)), ?_⟩
  walk_at "rd"
  exact ⟨_, rfl, _, s, rfl, hh, hg, fun H1 s1 => ⟨_, rfl, iteN rfl (q _ s1)⟩⟩

def need (b : Bool) : Ky → Option Nat
  | .left n | .rub n => if b then some n else none
  | .right n | .strike n | .copy n | .cut n => if b then none else some n
  | _ => none
def sideL {α : Type} (b : Bool) (s : Sd α) : Nat := if b then s.l.length else s.r.length
def rstep (b : Bool) (x : Sd V × Int) (k : Ky) : Sd V × Int := (step lV k x.1, match need b k with
  | some n => min x.2 ((sideL b x.1 : Nat) - (n : Int))
  | none => x.2)
def rstart (b : Bool) : Sd V × Int := (⟨if b then List.replicate 60 (.str "") else [], if b then [] else List.replicate 60 (.str ""), []⟩, 60)
def rfold (b : Bool) (ks : List Ky) : Sd V × Int := ks.foldl (rstep b) (rstart b)
def sn (b : Bool) : Str := if b then "left" else "right"
abbrev sideTab : List (Str × Str) := [("left", "left"), ("rub", "left"), ("right", "right"), ("strike", "right"), ("copy", "right"), ("cut", "right")]
theorem need_none (b : Bool) (k : Ky) (h : need b k = none) : decide (oV (sideTab.lookup k.kn) = .str (sn b)) = false := by
  cases k with
  | write w => cases b with
    | true => show decide (oV (none : Option Str) = V.str "left") = false; decide
    | false => show decide (oV (none : Option Str) = V.str "right") = false; decide
  | paste => cases b <;> decide
  | left n | rub n => cases b with
    | true => cases h
    | false => show decide (oV (some ("left" : Str)) = V.str "right") = false; decide
  | right n | strike n | copy n | cut n => cases b with
    | false => cases h
    | true => show decide (oV (some ("right" : Str)) = V.str "left") = false; decide
theorem need_some (b : Bool) (k : Ky) (n : Nat) (h : need b k = some n) : decide (oV (sideTab.lookup k.kn) = .str (sn b)) = true ∧ k.vs[1]? = some (.int n) := by
  cases k with
  | write w => cases h
  | paste => cases h
  | left m | rub m => cases b with
    | true =>
      have e := Option.some.inj (show some m = some n from h)
      subst e
      exact ⟨by show decide (oV (some ("left" : Str)) = V.str "left") = true; decide, rfl⟩
    | false => cases h
  | right m | strike m | copy m | cut m => cases b with
    | false =>
      have e := Option.some.inj (show some m = some n from h)
      subst e
      exact ⟨by show decide (oV (some ("right" : Str)) = V.str "right") = true; decide, rfl⟩
    | true => cases h
theorem oV_scal (o : Option Str) (z : Str) : scal (oV o) (.str z) = true := by cases o <;> rfl
theorem rfold_steps (b : Bool) : ∀ (ks : List Ky) (x : Sd V × Int), (ks.foldl (rstep b) x).1 = steps lV ks x.1
  | [], _ => rfl
  | k :: ks, x => rfold_steps b ks (rstep b x k)
/-! ### lengths alone -/
structure Ln where
  l : Nat
  r : Nat
  c : Nat
def Sd.ln {α : Type} (s : Sd α) : Ln := ⟨s.l.length, s.r.length, s.c.length⟩
def lstep : Ky → Ln → Ln
  | .write w, s => ⟨s.l + w.length, s.r, s.c⟩
  | .paste, s => ⟨s.l + s.c, s.r, s.c⟩
  | .left n, s => ⟨s.l - n, s.r + min n s.l, s.c⟩
  | .right n, s => ⟨s.l + min n s.r, s.r - n, s.c⟩
  | .strike n, s => ⟨s.l, s.r - n, s.c⟩
  | .rub n, s => ⟨s.l - n, s.r, s.c⟩
  | .copy n, s => ⟨s.l, s.r, min n s.r⟩
  | .cut n, s => ⟨s.l, s.r - n, min n s.r⟩
theorem step_ln {α : Type} (f : Nat → α) (k : Ky) (s : Sd α) : (step f k s).ln = lstep k s.ln := by
  cases k <;> simp only [step, lstep, Sd.ln, List.length_append, List.length_map, near_len, rest_len]
def lside (b : Bool) (s : Ln) : Nat := if b then s.l else s.r
def lrs (b : Bool) (x : Ln × Int) (k : Ky) : Ln × Int := (lstep k x.1, match need b k with
  | some n => min x.2 ((lside b x.1 : Nat) - (n : Int))
  | none => x.2)
def lfold (b : Bool) (ks : List Ky) (x : Ln × Int) : Ln × Int := ks.foldl (lrs b) x
theorem lrs_of (b : Bool) (x : Sd V × Int) (k : Ky) : ((rstep b x k).1.ln, (rstep b x k).2) = lrs b (x.1.ln, x.2) k := by
  unfold rstep lrs
  rw [step_ln]
  have e : sideL b x.1 = lside b x.1.ln := by cases b <;> rfl
  rw [e]
  try rfl
theorem lfold_of (b : Bool) : ∀ (ks : List Ky) (x : Sd V × Int), ((ks.foldl (rstep b) x).1.ln, (ks.foldl (rstep b) x).2) = lfold b ks (x.1.ln, x.2)
  | [], _ => rfl
  | k :: ks, x => by
    rw [List.foldl_cons, lfold_of b ks (rstep b x k), lrs_of]
    rfl
theorem lfold_le (b : Bool) : ∀ (ks : List Ky) (x : Ln × Int), (lfold b ks x).2 ≤ x.2
  | [], _ => Int.le_refl _
  | k :: ks, x => by
    have h := lfold_le b ks (lrs b x k)
    have h2 : (lrs b x k).2 ≤ x.2 := by
      unfold lrs
      split
      · exact Int.min_le_left _ _
      · exact Int.le_refl _
    exact Int.le_trans h h2
/-! ### lengths in the heap -/
def lnV (s : Ln) : List V := [.int s.l, .int s.r, .int s.c]
def LnAt (K : PySem.W.Frag) (H : Hp) (v : V) (s : Ln) : Prop := ∃ a, v = .ref a ∧ Row K H a (lnV s)
theorem LnAt.same {K : PySem.W.Frag} {H H' : Hp} {v : V} {s} (e : Same H H') (h : LnAt K H v s) : LnAt K H' v s := by
  obtain ⟨a, rfl, h⟩ := h
  exact ⟨a, rfl, h.same e⟩
theorem lnAt_tup {K : PySem.W.Frag} {H : Hp} {a : Addr} {s : Ln} (h : H a = some (.tup (lnV s))) : LnAt K H (.ref a) s := ⟨a, rfl, .inr (SqT.of h)⟩
theorem lnV_eq {s : Ln} {a b c : Int} (h1 : a = (s.l : Int)) (h2 : b = (s.r : Int)) (h3 : c = (s.c : Int)) : ([.int a, .int b, .int c] : List V) = lnV s := by rw [h1, h2, h3]; rfl
abbrev numTab : List (Str × Int) := [("left", 0), ("right", 1), ("clip", 2)]
def spGo (K : PySem.W.Frag) : Sp := fun vs H Q _ => ∃ kv lv k s, vs = [kv, lv] ∧ KeyAt K H kv k ∧ LnAt K H lv s ∧ k.ok ∧ ∀ p, H p = none → Q (.ref p) (upd H p (.tup (lnV (lstep k s))))
theorem ok_go (T : Txt K mg w) : FnOk P w K mg base CX0 1 T.f_go.f T.f_go.fd ["key", "lengths"] (spGo K) := by
  refine T.f_go.F.ok sc_go (fun vs H Q E h => ?_) (fun cdv A outer s H vs Q E hr h => ?_)
  · obtain ⟨kv, lv, k, s, rfl, _⟩ := h
    rfl
  obtain ⟨kv, lv, k, ⟨l, r, c⟩, rfl, ⟨u, rfl, hk⟩, ⟨a, rfl, hl⟩, hok, q⟩ := h
  refine ⟨_, (pss_cons (ps_asg (pv 1) (pg_seq rfl (pgs_cons (pg_name (i := 2) sc_go.nd rfl (.inl rfl)) (pgs_cons (pg_name (i := 3) sc_go.nd rfl (.inl rfl)) (pgs_cons (pg_name (i := 4) sc_go.nd rfl (.inl rfl)) pgs_nil)))))
      (pss_cons (ps_set (i := 5) sc_go.nd rfl (.inl rfl) (pe_ix ix_seq (pv 0) pe_int (fun _ _ => rfl)))
      (pss_cons (ps_if (pt_cmpR op_eq (pv 5) pe_str (nomark _)) (pss_one (ps_ret (pe_tup (pa_cons (pe_op op_add (pv 2) (pe_callB (call_lenK K) (by rfl) T.b_len (by decide +kernel) (pa_cons (pe_ix ix_seq (pv 0) pe_int (fun _ _ => rfl)) pa_nil))) (pa_cons (pv 3) (pa_cons (pv 4) pa_nil)))))) pss_nil)
      (pss_cons (ps_if (pt_cmpR op_eq (pv 5) pe_str (nomark _)) (pss_one (ps_ret (pe_tup (pa_cons (pe_op op_add (pv 2) (pv 4)) (pa_cons (pv 3) (pa_cons (pv 4) pa_nil)))))) pss_nil)
      (pss_cons (ps_set (i := 6) sc_go.nd rfl (.inl rfl) (pe_callB (call_min2 rfl) (by rfl) T.b_min (by decide +kernel) (pa_cons (pe_ix ix_seq (pv 0) pe_int (fun _ _ => rfl)) (pa_cons (pe_ix ix_seq (pv 1) (pe_ix ix_kdict (pe_id T.c_NUMBERS (by rfl) (by decide)) (pe_ix ix_kdict (pe_sd T.c_SIDES (by rfl) (by decide)) (pv 5) (fun _ _ => rfl)) (fun _ _ => rfl)) (fun _ _ => rfl)) pa_nil))))
      (pss_cons (ps_if (pt_cmpR op_eq (pv 5) pe_str (nomark _)) (pss_one (ps_ret (pe_tup (pa_cons (pe_op op_sub (pv 2) (pv 6)) (pa_cons (pe_op op_add (pv 3) (pv 6)) (pa_cons (pv 4) pa_nil)))))) pss_nil)
      (pss_cons (ps_if (pt_cmpR op_eq (pv 5) pe_str (nomark _)) (pss_one (ps_ret (pe_tup (pa_cons (pe_op op_add (pv 2) (pv 6)) (pa_cons (pe_op op_sub (pv 3) (pv 6)) (pa_cons (pv 4) pa_nil)))))) pss_nil)
      (pss_cons (ps_if (pt_cmpR op_eq (pv 5) pe_str (nomark _)) (pss_one (ps_ret (pe_tup (pa_cons (pe_op op_sub (pv 2) (pv 6)) (pa_cons (pv 3) (pa_cons (pv 4) pa_nil)))))) pss_nil)
      (pss_cons (ps_if (pt_cmpR op_eq (pv 5) pe_str (nomark _)) (pss_one (ps_ret (pe_tup (pa_cons (pv 2) (pa_cons (pe_op op_sub (pv 3) (pv 6)) (pa_cons (pv 4) pa_nil)))))) pss_nil)
      (pss_cons (ps_if (pt_cmpR op_eq (pv 5) pe_str (nomark _)) (pss_one (ps_ret (pe_tup (pa_cons (pv 2) (pa_cons (pv 3) (pa_cons (pv 6) pa_nil)))))) pss_nil)
      (pss_one (ps_ret (pe_tup (pa_cons (pv 2) (pa_cons (pe_op op_sub (pv 3) (pv 6)) (pa_cons (pv 6) pa_nil)))))))))))))))), ?_⟩
  walk_at "rd"
  refine ⟨_, rfl, gSeq.row hl rfl ?_⟩
  walk_at "rd"
  refine ⟨_, _, rfl, _, _, rfl, _, _, rfl, rfl, ?_⟩
  have z3 : 3 ≤ sizeLine := by decide
  have hsd : ∀ {z y : Str}, sideTab.lookup z = some y → KDct K w T.c_SIDES.d z (.str y) := fun h => T.c_SIDES.at h
  have hnu : ∀ {z : Str} {y : Int}, numTab.lookup z = some y → KDct K w T.c_NUMBERS.d z (.int y) := fun h => T.c_NUMBERS.at h
  have fin : ∀ {a b c' : Int} {s' : Ln}, lstep k ⟨l, r, c⟩ = s' → a = (s'.l : Int) → b = (s'.r : Int) → c' = (s'.c : Int) → ([V.int a, V.int b, V.int c'].length ≤ sizeLine ∧ ∀ p, H p = none → Q (.ref p) (upd H p (.tup [V.int a, V.int b, V.int c']))) := fun e e1 e2 e3 => ⟨z3, fun p hp => by
    rw [lnV_eq e1 e2 e3, ← e]
    exact q p hp⟩
  cases k with
  | write x =>
    refine ⟨_, rfl, ix_row hk (at_ofA (j := 0) rfl rfl) ⟨_, rfl, rfl, st_yes ?_⟩⟩
    exact ⟨_, rfl, _, rfl, ix_row hk (at_ofA (j := 1) rfl rfl) (len_tx (Nat.le_trans hok.2.1 (by decide)) ⟨_, _, rfl, rfl, _, rfl, _, rfl, fin rfl (by show (l : Int) + (x.length : Int) = ((l + x.length : Nat) : Int); omega) rfl rfl⟩)⟩
  | paste =>
    refine ⟨_, rfl, ix_row hk (at_ofA (j := 0) rfl rfl) ⟨_, rfl, rfl, st_no (by decide) ⟨_, rfl, rfl, st_yes ?_⟩⟩⟩
    exact ⟨_, rfl, _, rfl, _, _, rfl, rfl, _, rfl, _, rfl, fin rfl (by show (l : Int) + (c : Int) = ((l + c : Nat) : Int); omega) rfl rfl⟩
  | left n =>
    refine ⟨_, rfl, ix_row hk (at_ofA (j := 0) rfl rfl) ⟨_, rfl, rfl, st_no (by decide) ⟨_, rfl, rfl, st_no (by decide) ?_⟩⟩⟩
    refine ⟨_, rfl, ix_row hk (at_ofA (j := 1) rfl rfl) ⟨_, rfl, _, rfl, _, _, _, rfl, rfl, hsd rfl, _, _, _, rfl, rfl, hnu rfl, ix_row hl (at_ofA (j := 0) rfl rfl) ⟨_, _, rfl, ?_⟩⟩⟩
    walk_at "rd"
    rw [show (if (l : Int) < (n : Int) then (l : Int) else (n : Int)) = ((min n l : Nat) : Int) by split <;> omega]
    exact ⟨_, rfl, rfl, st_yes ⟨_, rfl, _, rfl, _, _, rfl, rfl, _, rfl, _, rfl, _, _, rfl, rfl, _, rfl, fin rfl (by show (l : Int) - ((min n l : Nat) : Int) = ((l - n : Nat) : Int); omega) (by show (r : Int) + ((min n l : Nat) : Int) = ((r + min n l : Nat) : Int); omega) rfl⟩⟩
  | right n =>
    refine ⟨_, rfl, ix_row hk (at_ofA (j := 0) rfl rfl) ⟨_, rfl, rfl, st_no (by decide) ⟨_, rfl, rfl, st_no (by decide) ?_⟩⟩⟩
    refine ⟨_, rfl, ix_row hk (at_ofA (j := 1) rfl rfl) ⟨_, rfl, _, rfl, _, _, _, rfl, rfl, hsd rfl, _, _, _, rfl, rfl, hnu rfl, ix_row hl (at_ofA (j := 1) rfl rfl) ⟨_, _, rfl, ?_⟩⟩⟩
    walk_at "rd"
    rw [show (if (r : Int) < (n : Int) then (r : Int) else (n : Int)) = ((min n r : Nat) : Int) by split <;> omega]
    exact ⟨_, rfl, rfl, st_no (by decide) ⟨_, rfl, rfl, st_yes ⟨_, rfl, _, rfl, _, _, rfl, rfl, _, rfl, _, rfl, _, _, rfl, rfl, _, rfl, fin rfl (by show (l : Int) + ((min n r : Nat) : Int) = ((l + min n r : Nat) : Int); omega) (by show (r : Int) - ((min n r : Nat) : Int) = ((r - n : Nat) : Int); omega) rfl⟩⟩⟩
  | rub n =>
    refine ⟨_, rfl, ix_row hk (at_ofA (j := 0) rfl rfl) ⟨_, rfl, rfl, st_no (by decide) ⟨_, rfl, rfl, st_no (by decide) ?_⟩⟩⟩
    refine ⟨_, rfl, ix_row hk (at_ofA (j := 1) rfl rfl) ⟨_, rfl, _, rfl, _, _, _, rfl, rfl, hsd rfl, _, _, _, rfl, rfl, hnu rfl, ix_row hl (at_ofA (j := 0) rfl rfl) ⟨_, _, rfl, ?_⟩⟩⟩
    walk_at "rd"
    rw [show (if (l : Int) < (n : Int) then (l : Int) else (n : Int)) = ((min n l : Nat) : Int) by split <;> omega]
    exact ⟨_, rfl, rfl, st_no (by decide) ⟨_, rfl, rfl, st_no (by decide) ⟨_, rfl, rfl, st_yes ⟨_, rfl, _, rfl, _, _, rfl, rfl, _, rfl, _, rfl, fin rfl (by show (l : Int) - ((min n l : Nat) : Int) = ((l - n : Nat) : Int); omega) rfl rfl⟩⟩⟩⟩
  | strike n =>
    refine ⟨_, rfl, ix_row hk (at_ofA (j := 0) rfl rfl) ⟨_, rfl, rfl, st_no (by decide) ⟨_, rfl, rfl, st_no (by decide) ?_⟩⟩⟩
    refine ⟨_, rfl, ix_row hk (at_ofA (j := 1) rfl rfl) ⟨_, rfl, _, rfl, _, _, _, rfl, rfl, hsd rfl, _, _, _, rfl, rfl, hnu rfl, ix_row hl (at_ofA (j := 1) rfl rfl) ⟨_, _, rfl, ?_⟩⟩⟩
    walk_at "rd"
    rw [show (if (r : Int) < (n : Int) then (r : Int) else (n : Int)) = ((min n r : Nat) : Int) by split <;> omega]
    exact ⟨_, rfl, rfl, st_no (by decide) ⟨_, rfl, rfl, st_no (by decide) ⟨_, rfl, rfl, st_no (by decide) ⟨_, rfl, rfl, st_yes ⟨_, rfl, _, rfl, _, rfl, _, _, rfl, rfl, _, rfl, fin rfl rfl (by show (r : Int) - ((min n r : Nat) : Int) = ((r - n : Nat) : Int); omega) rfl⟩⟩⟩⟩⟩
  | copy n =>
    refine ⟨_, rfl, ix_row hk (at_ofA (j := 0) rfl rfl) ⟨_, rfl, rfl, st_no (by decide) ⟨_, rfl, rfl, st_no (by decide) ?_⟩⟩⟩
    refine ⟨_, rfl, ix_row hk (at_ofA (j := 1) rfl rfl) ⟨_, rfl, _, rfl, _, _, _, rfl, rfl, hsd rfl, _, _, _, rfl, rfl, hnu rfl, ix_row hl (at_ofA (j := 1) rfl rfl) ⟨_, _, rfl, ?_⟩⟩⟩
    walk_at "rd"
    rw [show (if (r : Int) < (n : Int) then (r : Int) else (n : Int)) = ((min n r : Nat) : Int) by split <;> omega]
    exact ⟨_, rfl, rfl, st_no (by decide) ⟨_, rfl, rfl, st_no (by decide) ⟨_, rfl, rfl, st_no (by decide) ⟨_, rfl, rfl, st_no (by decide) ⟨_, rfl, rfl, st_yes ⟨_, rfl, _, rfl, _, rfl, fin rfl rfl rfl rfl⟩⟩⟩⟩⟩⟩
  | cut n =>
    refine ⟨_, rfl, ix_row hk (at_ofA (j := 0) rfl rfl) ⟨_, rfl, rfl, st_no (by decide) ⟨_, rfl, rfl, st_no (by decide) ?_⟩⟩⟩
    refine ⟨_, rfl, ix_row hk (at_ofA (j := 1) rfl rfl) ⟨_, rfl, _, rfl, _, _, _, rfl, rfl, hsd rfl, _, _, _, rfl, rfl, hnu rfl, ix_row hl (at_ofA (j := 1) rfl rfl) ⟨_, _, rfl, ?_⟩⟩⟩
    walk_at "rd"
    rw [show (if (r : Int) < (n : Int) then (r : Int) else (n : Int)) = ((min n r : Nat) : Int) by split <;> omega]
    exact ⟨_, rfl, rfl, st_no (by decide) ⟨_, rfl, rfl, st_no (by decide) ⟨_, rfl, rfl, st_no (by decide) ⟨_, rfl, rfl, st_no (by decide) ⟨_, rfl, rfl, st_no (by decide) ⟨_, rfl, _, rfl, _, rfl, _, _, rfl, rfl, _, rfl, fin rfl rfl (by show (r : Int) - ((min n r : Nat) : Int) = ((r - n : Nat) : Int); omega) rfl⟩⟩⟩⟩⟩⟩
def x0 (b : Bool) : Ln := if b then ⟨60, 0, 0⟩ else ⟨0, 60, 0⟩
theorem rfold_lfold (b : Bool) (ks : List Ky) : (rfold b ks).2 = (lfold b ks (x0 b, 60)).2 := by
  have h := congrArg Prod.snd (lfold_of b ks (rstart b))
  have e : ((rstart b).1.ln, (rstart b).2) = (x0 b, (60 : Int)) := by cases b <;> rfl
  rw [e] at h
  exact h
def spNeeded (K : PySem.W.Frag) : Sp := fun vs H Q _ => ∃ (hv lv : V) (b : Bool) (ks : List Ky) (x : Ln), vs = [hv, .str (sn b), lv] ∧ HandAt K H hv ks ∧ GoodH ks ∧ LnAt K H lv x ∧ ∀ H', Same H H' → Q (.int (60 - (lfold b ks (x, 60)).2)) H'
theorem num_sn (b : Bool) : numTab.lookup (sn b) = some (if b then 0 else 1) := by cases b <;> decide
theorem ok_needed (T : Txt K mg w) : FnOk P w K mg base CX0 2 T.f_needed.f T.f_needed.fd ["hand", "side", "lengths"] (spNeeded K) := by
  refine T.f_needed.F.ok sc_needed (fun vs H Q E h => ?_) (fun cdv A outer s H vs Q E hr h => ?_)
  · obtain ⟨hv, lv, b, ks, x, rfl, _⟩ := h
    rfl
  obtain ⟨hv, lv, b, ks, x, rfl, ⟨ah, xs, rfl, hrowH, hp⟩, gh, hl, q⟩ := h
  refine ⟨_, (pss_cons (ps_set (i := 3) sc_needed.nd rfl (.inl rfl) (pe_c_HEAVIEST T))
      (pss_cons (ps_for PassesOwn.never rfl (pi_seq (pv 0)) (pg_name (i := 4) sc_needed.nd rfl (.inl rfl))
        (pss_cons (ps_if (pt_cmpR op_eq (pe_sget T.c_SIDES (pe_sd T.c_SIDES (by rfl) (by decide)) (pe_ix ix_seq (pv 4) pe_int (fun _ _ => rfl)) ⟨by rfl, by rfl, by rfl, by rfl⟩) (pv 1) (nomark _)) (pss_one (ps_set (i := 3) sc_needed.nd rfl (.inl rfl) (pe_callB (call_min2 rfl) (by rfl) T.b_min (by decide +kernel) (pa_cons (pv 3) (pa_cons (pe_op op_sub (pe_ix ix_seq (pv 2) (pe_ix ix_kdict (pe_id T.c_NUMBERS (by rfl) (by decide)) (pv 1) (fun _ _ => rfl)) (fun _ _ => rfl)) (pe_ix ix_seq (pv 4) pe_int (fun _ _ => rfl))) pa_nil))))) pss_nil)
      (pss_one (ps_set (i := 2) sc_needed.nd rfl (.inl rfl) (pe_call (ok_go T) (hr.mono (by first | decide | omega)) (by rfl) T.f_go.g T.f_go.F.kp T.f_go.b .nil pass0 (pa_cons (pv 4) (pa_cons (pv 2) pa_nil)))))))
      (pss_one (ps_ret (pe_op op_sub (pe_c_HEAVIEST T) (pv 3)))))), ?_⟩
  walk_at "rd"
  have hxl : xs.length = ks.length := prd_len hp
  refine for_row (K := K) (a := ah) (xs := xs) rfl hrowH (Same.refl _) (fun i σ H' => ∃ lv' y, σ = [some (.ref ah), some (.str (sn b)), some lv', some (.int (lfold b (ks.take i) (x, 60)).2), y] ∧ Same H H' ∧ LnAt K H' lv' (lfold b (ks.take i) (x, 60)).1)
    ⟨lv, none, rfl, Same.refl _, hl⟩ (fun i σ H' _ ⟨_, _, _, s9, _⟩ => s9) ?_ ?_
  · rintro i v σ H8 hx ⟨lv', y, rfl, s9, hl9⟩
    obtain ⟨k, hk, rk⟩ := prd_at hp hx
    have hok := gh.ok k (List.mem_of_getElem? hk)
    obtain ⟨u, rfl, hrow⟩ := rk.same s9
    have hst : lfold b (ks.take (i + 1)) (x, 60) = lrs b (lfold b (ks.take i) (x, 60)) k := by
      unfold lfold
      rw [List.take_add_one, hk, List.foldl_append]
      rfl
    generalize hz : lfold b (ks.take i) (x, 60) = z at *
    obtain ⟨al, rfl, hrl⟩ := hl9
    have fin : ∀ (B : L2.St → Hp → Prop) (m : Int), m = (lrs b z k).2 → ∀ σ, σ = [some (.ref ah), some (.str (sn b)), some (.ref al), some (.int m), some (V.ref u)] →
        tAsg (tCall (spGo K) [] E0 (tCons (tVar 4) (tCons (tVar 2) tNil))) (gName 2)
          { nx := fun σ H' => ∃ lv' y, σ = [some (.ref ah), some (.str (sn b)), some lv', some (.int (lfold b (ks.take (i + 1)) (x, 60)).2), y] ∧ Same H H' ∧ LnAt K H' lv' (lfold b (ks.take (i + 1)) (x, 60)).1,
            ct := fun σ H' => ∃ lv' y, σ = [some (.ref ah), some (.str (sn b)), some lv', some (.int (lfold b (ks.take (i + 1)) (x, 60)).2), y] ∧ Same H H' ∧ LnAt K H' lv' (lfold b (ks.take (i + 1)) (x, 60)).1,
            bk := B, rt := Q } σ H8 := by
      rintro B m rfl σ rfl
      walk_at "rd"
      refine ⟨_, rfl, _, rfl, _, _, k, z.1, rfl, ⟨u, rfl, hrow⟩, ⟨al, rfl, hrl⟩, hok, fun p np => ?_⟩
      refine ⟨.ref p, some (V.ref u), ?_, s9.trans (same_upd np), ?_⟩
      · rw [hst]
        rfl
      · rw [hst]
        exact lnAt_tup upd_same
    have hidx : atI (lnV z.1) (if b then 0 else 1) = some (.int (lside b z.1 : Nat)) := by cases b <;> rfl
    walk_at "rd"
    refine ⟨rfl, _, rfl, ix_row hrow (at_ofA (j := 0) rfl (vs_0 k)) ⟨_, rfl, _, rfl, oV_scal _ _, _, rfl, ?_⟩⟩
    cases hn : need b k with
    | none =>
      refine iteN (need_none b k hn) (fin (fun _ _ => True) _ ?_ _ rfl)
      unfold lrs
      rw [hn]
    | some n =>
      obtain ⟨n1, n2⟩ := need_some b k n hn
      refine iteY n1 ?_
      refine ⟨_, rfl, _, rfl, _, rfl, _, _, _, rfl, rfl, T.c_NUMBERS.at (num_sn b), ix_row hrl hidx ⟨_, rfl, ix_row hrow (at_ofA (j := 1) rfl n2) ⟨_, _, rfl, rfl, _, _, rfl, fin (fun _ _ => True) _ ?_ _ rfl⟩⟩⟩
      unfold lrs
      rw [hn]
      show (if ((lside b z.1 : Nat) : Int) - (n : Int) < z.2 then _ else _) = min z.2 _
      split <;> omega
  · rintro σ H8 ⟨lv', y, rfl, s9, hl9⟩
    rw [hxl, List.take_length]
    walk_at "rd"
    exact ⟨_, rfl, _, _, rfl, rfl, q _ s9⟩
def spReach (K : PySem.W.Frag) : Sp := fun vs H Q _ => ∃ (hv : V) (b : Bool) (ks : List Ky), vs = [hv, .str (sn b)] ∧ HandAt K H hv ks ∧ GoodH ks ∧ ∀ H', Same H H' → Q (.int (60 - (rfold b ks).2)) H'
def spReaches (K : PySem.W.Frag) : Sp := fun vs H Q _ => ∃ (hv : V) (ks : List Ky), vs = [hv] ∧ HandAt K H hv ks ∧ GoodH ks ∧ ∀ p H', Same H H' → H' p = some (.tup [.int (60 - (rfold true ks).2), .int (60 - (rfold false ks).2)]) → Q (.ref p) H'

theorem plain_mem {w : List Nat} {c : Nat} (h : Plain w) (hc : c ∈ w) : c ∈ alpha := by
  have := List.all_eq_true.mp h c hc
  simpa using this

theorem norm_leaf {d : Dt} (h : isRow d = false) : norm d = d := by cases d <;> first | rfl | cases h
theorem leaf_norm {d e : Dt} (h : norm e = d) (hd : isRow d = false) : e = d := by
  have : isRow e = false := by rw [← row_norm, h, hd]
  rw [← h, norm_leaf this]
theorem kD_leaf (k : Ky) : ∀ d ∈ kD k, isRow d = false := by
  intro d hd
  cases k <;> simp only [kD, List.mem_cons, List.not_mem_nil, or_false] at hd
  case paste => subst hd; rfl
  all_goals (rcases hd with rfl | rfl <;> rfl)
theorem ats_leaf {K : PySem.W.Frag} {H : Hp} : ∀ {es ds : List Dt} {xs : List V}, Ats K H xs es → es.map norm = ds → (∀ d ∈ ds, isRow d = false) → Ats K H xs ds
  | [], ds, xs, h, e, _ => by rw [← e]; exact h
  | c :: es, ds, xs, h, e, hl => by
    subst e
    rw [List.map_cons] at hl ⊢
    unfold Ats at h ⊢
    obtain ⟨v, us, rfl, h1, h2⟩ := h
    refine ⟨v, us, rfl, ?_, ats_leaf h2 rfl fun d hd => hl d (List.mem_cons_of_mem _ hd)⟩
    rw [← leaf_norm (e := c) rfl (hl _ (List.mem_cons_self ..))]
    exact h1
theorem at_nm {K : PySem.W.Frag} {H : Hp} {v : V} (z : Str) (h : At K H v (.str (nm z))) : v = .str z := by
  unfold At at h
  rw [h.1]
  unfold nm
  rw [tx_of]
theorem ats_vs {K : PySem.W.Frag} {H : Hp} {xs : List V} (k : Ky) (h : Ats K H xs (kD k)) : xs = k.vs := by
  have two : ∀ {z : Str} {d : Dt}, Ats K H xs [.str (nm z), d] → ∃ v, xs = [.str z, v] ∧ At K H v d := fun h => by
    unfold Ats at h
    obtain ⟨v, us, rfl, h1, h2⟩ := h
    unfold Ats at h2
    obtain ⟨u, us, rfl, h3, h4⟩ := h2
    unfold Ats at h4
    subst h4
    exact ⟨u, by rw [at_nm _ h1], h3⟩
  cases k with
  | paste =>
    have h : Ats K H xs [.str (nm "paste")] := h
    unfold Ats at h
    obtain ⟨v, us, rfl, h1, h2⟩ := h
    unfold Ats at h2
    subst h2
    rw [at_nm _ h1]
    rfl
  | write w => obtain ⟨v, rfl, h3⟩ := two (z := "write") h; unfold At at h3; rw [h3.1]; rfl
  | left n => obtain ⟨v, rfl, h3⟩ := two (z := "left") h; unfold At at h3; rw [h3]; rfl
  | right n => obtain ⟨v, rfl, h3⟩ := two (z := "right") h; unfold At at h3; rw [h3]; rfl
  | strike n => obtain ⟨v, rfl, h3⟩ := two (z := "strike") h; unfold At at h3; rw [h3]; rfl
  | rub n => obtain ⟨v, rfl, h3⟩ := two (z := "rub") h; unfold At at h3; rw [h3]; rfl
  | copy n => obtain ⟨v, rfl, h3⟩ := two (z := "copy") h; unfold At at h3; rw [h3]; rfl
  | cut n => obtain ⟨v, rfl, h3⟩ := two (z := "cut") h; unfold At at h3; rw [h3]; rfl
/-- a hand as a thing -/
def dH (ks : List Ky) : Dt := .lst (ks.map fun k => .tup (kD k))
theorem norm_lst (ds : List Dt) : norm (.lst ds) = .lst (ds.map norm) := by simp only [norm, normAll_map]
theorem norm_tup (ds : List Dt) : norm (.tup ds) = .lst (ds.map norm) := by simp only [norm, normAll_map]
theorem keyAt_of {K : PySem.W.Frag} {H : Hp} {v : V} {k : Ky} {e : Dt} (h : At K H v e) (hn : norm e = norm (.tup (kD k))) : KeyAt K H v k := by
  have hr : isRow e = true := by rw [← row_norm, hn, row_norm]; rfl
  obtain ⟨a, xs, rfl, hrow, hx⟩ := at_row h hr
  have hi : e.items.map norm = kD k := by
    rw [← items_norm, hn, items_norm]
    show (kD k).map norm = kD k
    have : ∀ ds : List Dt, (∀ d ∈ ds, isRow d = false) → ds.map norm = ds := fun ds => by
      induction ds with
      | nil => intro _; rfl
      | cons c ds ih => intro h; rw [List.map_cons, norm_leaf (h c (List.mem_cons_self ..)), ih fun d hd => h d (List.mem_cons_of_mem _ hd)]
    exact this _ (kD_leaf k)
  have := ats_vs k (ats_leaf hx hi (kD_leaf k))
  subst this
  exact ⟨a, rfl, hrow⟩
theorem keysAt_of {K : PySem.W.Frag} {H : Hp} : ∀ {es : List Dt} {ks : List Ky} {xs : List V}, Ats K H xs es → es.map norm = (ks.map fun k => norm (.tup (kD k))) → Paired (KeyAt K H) xs ks
  | [], [], xs, h, _ => by unfold Ats at h; subst h; exact .nil
  | [], _ :: _, _, _, e => by cases e
  | _ :: _, [], _, _, e => by cases e
  | e :: es, k :: ks, xs, h, hn => by
    unfold Ats at h
    obtain ⟨v, us, rfl, h1, h2⟩ := h
    rw [List.map_cons, List.map_cons] at hn
    injection hn with n1 n2
    exact .cons (keyAt_of h1 n1) (keysAt_of h2 n2)
theorem handAt_of {K : PySem.W.Frag} {H : Hp} {v : V} {ks : List Ky} {e : Dt} (h : At K H v e) (hn : norm e = norm (dH ks)) : HandAt K H v ks := by
  have hr : isRow e = true := by rw [← row_norm, hn, row_norm]; rfl
  obtain ⟨a, xs, rfl, hrow, hx⟩ := at_row h hr
  refine ⟨a, xs, rfl, hrow, keysAt_of hx ?_⟩
  rw [← items_norm, hn, items_norm]
  show (ks.map _).map norm = _
  rw [List.map_map]
  rfl
theorem kD_fits {k : Ky} (hok : k.ok) (hw : k.wt ≤ 60) : ∀ d ∈ kD k, Fits d ∧ deep d ≤ 0 ∧ bulk d ≤ 60 := by
  have hs : ∀ z ∈ (["write", "paste", "left", "right", "strike", "rub", "copy", "cut"] : List Str), Fits (.str (nm z)) ∧ deep (.str (nm z)) ≤ 0 ∧ bulk (.str (nm z)) ≤ 60 := fun z hz => by
    refine ⟨?_, Nat.le_refl _, ?_⟩
    · unfold Fits
      exact fun c hc => Nat.lt_of_lt_of_le ((by decide +kernel : ∀ z ∈ (["write", "paste", "left", "right", "strike", "rub", "copy", "cut"] : List Str), ∀ c ∈ nm z, c < 1000) z hz c hc) (by decide)
    · unfold bulk
      exact Nat.le_trans (kn_names z hz).2 (by decide)
  have hi : ∀ n : Nat, n ≤ 60 → Fits (.int n) ∧ deep (.int n) ≤ 0 ∧ bulk (.int n) ≤ 60 := fun n hn => ⟨by unfold Fits; exact Nat.lt_of_le_of_lt (show (n : Int).natAbs ≤ 60 by omega) (by decide), Nat.le_refl _, by unfold bulk; exact Nat.zero_le _⟩
  intro d hd
  cases k <;> simp only [kD, List.mem_cons, List.not_mem_nil, or_false] at hd
  case paste => subst hd; exact hs _ (by simp)
  case write w =>
    rcases hd with rfl | rfl
    · exact hs _ (by simp)
    · refine ⟨?_, Nat.le_refl _, by unfold bulk; exact hok.2.1⟩
      unfold Fits
      exact fun c hc => Nat.lt_of_lt_of_le ((by decide +kernel : ∀ c ∈ alpha, c < 1000) c (by simpa using plain_mem hok.2.2 hc)) (by decide)
  all_goals (rcases hd with rfl | rfl; exact hs _ (by simp); exact hi _ hw)
theorem kD_len (k : Ky) : (kD k).length ≤ 2 := by cases k <;> simp [kD]
theorem dH_fits {ks : List Ky} (h : GoodH ks) : Fits (dH ks) ∧ deep (dH ks) ≤ 2 ∧ bulk (dH ks) ≤ 300000 := by
  have hk : ∀ d ∈ (ks.map fun k => Dt.tup (kD k)), Fits d ∧ deep d ≤ 1 ∧ bulk d ≤ 200 := fun d hd => by
    obtain ⟨k, hkm, rfl⟩ := List.mem_map.mp hd
    have h1 := kD_fits (h.ok k hkm) (Nat.le_trans (hwt_mem hkm) h.wt)
    refine ⟨by unfold Fits; exact fitsAll_of fun d hd => (h1 d hd).1, ?_, ?_⟩
    · unfold deep
      have := deepAll_le (n := 0) (ds := kD k) fun d hd => (h1 d hd).2.1
      omega
    · unfold bulk
      have := bulkAll_le (n := 60) (ds := kD k) fun d hd => (h1 d hd).2.2
      have h2 := kD_len k
      have : (kD k).length * (60 + 1) ≤ 2 * 61 := Nat.mul_le_mul_right _ h2
      omega
  refine ⟨by unfold dH Fits; exact fitsAll_of fun d hd => (hk d hd).1, ?_, ?_⟩
  · unfold dH deep
    have := deepAll_le (n := 1) (ds := ks.map fun k => Dt.tup (kD k)) fun d hd => (hk d hd).2.1
    omega
  · unfold dH bulk
    have h1 := bulkAll_le (n := 200) (ds := ks.map fun k => Dt.tup (kD k)) fun d hd => (hk d hd).2.2
    have h2 := h.few
    rw [List.length_map] at h1
    have : ks.length * (200 + 1) ≤ 60 * 201 := Nat.mul_le_mul_right _ h2
    omega
theorem dH_neat {ks : List Ky} (h : GoodH ks) : Neat (dH ks) := ⟨(dH_fits h).1, Nat.le_trans (dH_fits h).2.1 (by decide), (dH_fits h).2.2⟩

def kyT (k : Ky) : Dt := .tup (kD k)
theorem dH_kyT (ks : List Ky) : dH ks = .lst (ks.map kyT) := rfl

/-! ## letters' sources moved by keys, over cells -/
def nearD (n : Nat) (x : List Dt) : List Dt := (x.drop (x.length - n)).reverse
def farD (n : Nat) (x : List Dt) : List Dt := x.take (x.length - n)
theorem cutW_last {xs : List W} {n : Nat} (h : 1 ≤ n) : cutW xs (some (-(n : Int))) none = xs.drop (xs.length - n) := by
  unfold cutW
  rw [show HT.sIx xs.length 0 (some (-(n : Int))) = xs.length - n by
    show (if -(n : Int) < 0 then (-(n : Int) + (xs.length : Int)).toNat else _) = _
    rw [if_pos (by omega)]
    omega, HT.sIx_none, List.take_of_length_le (by rw [List.length_drop]; exact Nat.le_refl _)]
def spNearD : SpD := fun ws C Q _ => ∃ (i n : Nat) (ds : List Dt), ws = [.o i, .d (.int n)] ∧ 1 ≤ n ∧ C[i]? = some (.lst (ds.map W.d)) ∧ Q (.o C.length) (C ++ [.lst ((nearD n ds).map W.d)])
theorem ok_nearest (T : Txt K mg w) : FnOk P w K mg base CX0 1 T.f_nearest.f T.f_nearest.fd ["side", "many"] (lft K spNearD) := by
  refine okD T.f_nearest.F sc_nearest (fun ws C Q X h => ?_) (fun cv A out s H E hr => ⟨_, (pss_cons (ps_set (i := 2) sc_nearest.nd rfl (.inl rfl) (pe_slice (sl_listK (K := K)) (pv 0) (po_some (pe_un un_neg (pv 1))) po_none))
      (pss_cons (ps_expr (pe_bm0K K PySem.F.plainAttrs_list PySem.F.slot_list_reverse PySem.F.type_list_reverse mt_reverse (pv 2)))
      (pss_one (ps_ret (pv 2))))), _, inferInstance, fun ws C Q X h => ?_⟩)
  · obtain ⟨i, n, ds, rfl, _⟩ := h
    rfl
  obtain ⟨i, n, ds, rfl, hn, hi, q⟩ := h
  walk_at "dw"
  simp only [hi]
  rw [cutW_last hn, List.length_map]
  refine newL_o ?_
  walk_at "dw"
  simp only [last_at]
  refine ⟨rfl, ?_⟩
  rw [List.set_append_right _ _ (Nat.le_refl _), Nat.sub_self, ← List.map_drop, ← List.map_reverse]
  exact ret.same q
def spTakeD : SpD := fun ws C Q _ => ∃ (i n : Nat) (ds : List Dt), ws = [.o i, .d (.int n)] ∧ 1 ≤ n ∧ C[i]? = some (.lst (ds.map W.d)) ∧ Q (.o C.length) ((C ++ [Cell.lst ((nearD n ds).map W.d)]).set i (.lst ((farD n ds).map W.d)))
theorem ok_take (T : Txt K mg w) : FnOk P w K mg base CX0 2 T.f_take.f T.f_take.fd ["side", "many"] (lft K spTakeD) := by
  refine okD T.f_take.F sc_take (fun ws C Q X h => ?_) (fun cv A out s H E hr => ⟨_, (pss_cons (ps_set (i := 2) sc_take.nd rfl (.inl rfl) (pe_call (ok_nearest T) (hr.mono (by first | decide | omega)) (by rfl) T.f_nearest.g T.f_nearest.F.kp T.f_nearest.b .nil pass0 (pa_cons (pv 0) (pa_cons (pv 1) pa_nil))))
      (pss_cons (ps_delS (pv 0) (po_some (pe_un un_neg (pv 1))))
      (pss_one (ps_ret (pv 2))))), _, inferInstance, fun ws C Q X h => ?_⟩)
  · obtain ⟨i, n, ds, rfl, _⟩ := h
    rfl
  obtain ⟨i, n, ds, rfl, hn, hi, q⟩ := h
  walk_at "dw"
  refine ⟨i, n, ds, rfl, hn, hi, ?_⟩
  walk_at "dw"
  simp only [app_at (ex := [Cell.lst ((nearD n ds).map W.d)]) hi]
  rw [show HT.sIx (ds.map W.d).length 0 (some (-(n : Int))) = ds.length - n by
    show (if -(n : Int) < 0 then (-(n : Int) + ((ds.map W.d).length : Int)).toNat else _) = _
    rw [if_pos (by omega), List.length_map]
    omega, ← List.map_take]
  exact ret.same q
def kstep (k : Ky) (ms l r c : List Dt) : List Dt × List Dt × List Dt := match k with
  | .write _ => (l ++ ms, r, c)
  | .paste => (l ++ c, r, c)
  | .left n => (farD n l, r ++ nearD n l, c)
  | .right n => (l ++ nearD n r, farD n r, c)
  | .rub n => (farD n l, r, c)
  | .strike n => (l, farD n r, c)
  | .copy n => (l, r, nearD n r)
  | .cut n => (l, farD n r, nearD n r)
def keyRow (k : Ky) (ms : List Dt) : List Dt := match k with
  | .write _ => [.str (cd "write"), .lst ms]
  | k => kD k
/-- key told as a thing: a row, a write's letters told by ms -/
def KeyLike (d : Dt) (k : Ky) (ms : List Dt) : Prop := isRow d = true ∧ d.items = keyRow k ms
def spKeyD : SpD := fun ws C Q _ => ∃ (d : Dt) (k : Ky) (ms l r c : List Dt) (i j h : Nat), ws = [.d d, .o i, .o j, .o h] ∧ KeyLike d k ms ∧ k.ok ∧ C[i]? = some (.lst (l.map W.d)) ∧ C[j]? = some (.lst (r.map W.d)) ∧ C[h]? = some (.lst (c.map W.d)) ∧ i ≠ j ∧ h ≠ i ∧ h ≠ j ∧ l.length + r.length + c.length + ms.length ≤ 1000000 ∧
  ∀ h' C', (∀ (x : Nat) y, x ≠ i → x ≠ j → C[x]? = some y → C'[x]? = some y) → C'[i]? = some (.lst ((kstep k ms l r c).1.map W.d)) → C'[j]? = some (.lst ((kstep k ms l r c).2.1.map W.d)) → C'[h']? = some (.lst ((kstep k ms l r c).2.2.map W.d)) → h' ≠ i → h' ≠ j → (h' = h ∨ C.length ≤ h') → C.length ≤ C'.length → Q (.o h') C'
theorem nearD_len (n : Nat) (x : List Dt) : (nearD n x).length ≤ x.length := by unfold nearD; rw [List.length_reverse, List.length_drop]; omega
theorem ok_do_key (T : Txt K mg w) : FnOk P w K mg base CX0 3 T.f_do_key.f T.f_do_key.fd ["key", "left", "right", "held"] (lft K spKeyD) := by
  refine okD T.f_do_key.F sc_do_key (fun ws C Q X h => ?_) (fun cv A out s H E hr => ⟨_, (pss_cons (ps_set (i := 4) sc_do_key.nd rfl (.inl rfl) (pe_ix (ix_seqK K) (pv 0) pe_int (fun _ _ => rfl)))
      (pss_cons (ps_if (pt_cmpR (q_eqA K hr.units) (pv 4) pe_strL (nomark _)) (pss_one (ps_expr (pe_bmK K PySem.F.plainAttrs_list PySem.F.slot_list_extend PySem.F.type_list_extend mt_extend (pv 1) (pa_cons (pe_callTy (q_list K) (by rfl) T.b_list (by decide +kernel) (pa_cons (pe_ix (ix_seqK K) (pv 0) pe_int (fun _ _ => rfl)) pa_nil)) pa_nil)))) (pss_one (ps_if (pt_cmpR (q_eqA K hr.units) (pv 4) pe_strL (nomark _)) (pss_one (ps_expr (pe_bmK K PySem.F.plainAttrs_list PySem.F.slot_list_extend PySem.F.type_list_extend mt_extend (pv 1) (pa_cons (pv 3) pa_nil)))) (pss_one (ps_if (pt_cmpR (q_eqA K hr.units) (pv 4) pe_strL (nomark _)) (pss_one (ps_expr (pe_bmK K PySem.F.plainAttrs_list PySem.F.slot_list_extend PySem.F.type_list_extend mt_extend (pv 2) (pa_cons (pe_call (ok_take T) (hr.mono (by first | decide | omega)) (by rfl) T.f_take.g T.f_take.F.kp T.f_take.b .nil pass0 (pa_cons (pv 1) (pa_cons (pe_ix (ix_seqK K) (pv 0) pe_int (fun _ _ => rfl)) pa_nil))) pa_nil)))) (pss_one (ps_if (pt_cmpR (q_eqA K hr.units) (pv 4) pe_strL (nomark _)) (pss_one (ps_expr (pe_bmK K PySem.F.plainAttrs_list PySem.F.slot_list_extend PySem.F.type_list_extend mt_extend (pv 1) (pa_cons (pe_call (ok_take T) (hr.mono (by first | decide | omega)) (by rfl) T.f_take.g T.f_take.F.kp T.f_take.b .nil pass0 (pa_cons (pv 2) (pa_cons (pe_ix (ix_seqK K) (pv 0) pe_int (fun _ _ => rfl)) pa_nil))) pa_nil)))) (pss_one (ps_if (pt_cmpR (q_eqA K hr.units) (pv 4) pe_strL (nomark _)) (pss_one (ps_expr (pe_call (ok_take T) (hr.mono (by first | decide | omega)) (by rfl) T.f_take.g T.f_take.F.kp T.f_take.b .nil pass0 (pa_cons (pv 1) (pa_cons (pe_ix (ix_seqK K) (pv 0) pe_int (fun _ _ => rfl)) pa_nil))))) (pss_one (ps_if (pt_cmpR (q_eqA K hr.units) (pv 4) pe_strL (nomark _)) (pss_one (ps_expr (pe_call (ok_take T) (hr.mono (by first | decide | omega)) (by rfl) T.f_take.g T.f_take.F.kp T.f_take.b .nil pass0 (pa_cons (pv 2) (pa_cons (pe_ix (ix_seqK K) (pv 0) pe_int (fun _ _ => rfl)) pa_nil))))) (pss_one (ps_if (pt_cmpR (q_eqA K hr.units) (pv 4) pe_strL (nomark _)) (pss_one (ps_ret (pe_call (ok_nearest T) (hr.mono (by first | decide | omega)) (by rfl) T.f_nearest.g T.f_nearest.F.kp T.f_nearest.b .nil pass0 (pa_cons (pv 2) (pa_cons (pe_ix (ix_seqK K) (pv 0) pe_int (fun _ _ => rfl)) pa_nil))))) (pss_one (ps_ret (pe_call (ok_take T) (hr.mono (by first | decide | omega)) (by rfl) T.f_take.g T.f_take.F.kp T.f_take.b .nil pass0 (pa_cons (pv 2) (pa_cons (pe_ix (ix_seqK K) (pv 0) pe_int (fun _ _ => rfl)) pa_nil))))))))))))))))))
      (pss_one (ps_ret (pv 3))))), _, inferInstance, fun ws C Q X h => ?_⟩)
  · obtain ⟨d, k, ms, l, r, c, i, j, h, rfl, _⟩ := h
    rfl
  obtain ⟨d, k, ms, l, r, c, i, j, h, rfl, ⟨hr1, hk⟩, hok, hi, hj, hh, ij, hi2, hj2, hl, q⟩ := h
  have li := lt_at hi
  have lj := lt_at hj
  have lh := lt_at hh
  walk_at "dw"
  have o1 : ∀ {X : Cell}, (C ++ [X])[C.length]? = some X := last_at
  cases k with
  | paste =>
    rw [ixW_row (x := .str (cd "paste")) hr1 (by rw [hk]; exact atI_0)]
    walk_at "dw"
    rw [if_neg (by decide +kernel)]
    simp only [decide_true]
    walk_at "dw"
    simp only [hi, hh]
    refine ⟨rfl, by rw [List.length_map, List.length_map]; omega, ret.same (q h _ (fun x y x1 x2 hx => by rw [set_off (Ne.symm x1)]; exact hx) (by rw [set_at hi, ← List.map_append]; rfl) (by rw [set_off ij]; exact hj) (by rw [set_off (Ne.symm hi2)]; exact hh) hi2 hj2 (.inl rfl) (by rw [List.length_set]; exact Nat.le_refl _))⟩
  | write z =>
    rw [ixW_row (x := .str (cd "write")) hr1 (by rw [hk]; exact atI_0)]
    walk_at "dw"
    simp only [decide_true]
    walk_at "dw"
    simp only [hi]
    rw [ixW_row (x := .lst ms) hr1 (by rw [hk]; exact atI_1)]
    walk_at "dw"
    refine newL_o ?_
    simp only [app_at (ex := [Cell.lst (ms.map W.d)]) hi, last_at]
    refine ⟨by rw [List.length_map, List.length_map]; omega, ret.same (q h _ (fun x y x1 x2 hx => by rw [set_off (Ne.symm x1)]; exact app_at hx) (by rw [set_at (app_at hi), ← List.map_append]; rfl) (by rw [set_off ij]; exact app_at hj) (by rw [set_off (Ne.symm hi2)]; exact app_at hh) hi2 hj2 (.inl rfl) (by rw [List.length_set, List.length_append]; omega))⟩
  | left n =>
    rw [ixW_row (x := .str (cd "left")) hr1 (by rw [hk]; exact atI_0)]
    walk_at "dw"
    rw [if_neg (by decide +kernel), if_neg (by decide +kernel)]
    simp only [decide_true]
    walk_at "dw"
    simp only [hj]
    rw [ixW_row (x := .int (n : Nat)) hr1 (by rw [hk]; exact atI_1)]
    walk_at "dw"
    refine ⟨i, n, l, rfl, hok, hi, ?_⟩
    have f1 : ((C ++ [Cell.lst ((nearD n l).map W.d)]).set i (.lst ((farD n l).map W.d)))[j]? = some (.lst (r.map W.d)) := by rw [set_off ij]; exact app_at hj
    have f2 : ((C ++ [Cell.lst ((nearD n l).map W.d)]).set i (.lst ((farD n l).map W.d)))[C.length]? = some (.lst ((nearD n l).map W.d)) := by rw [set_off (by omega)]; exact last_at
    have nl := nearD_len n l
    simp only [f1, f2]
    refine ⟨by rw [List.length_map, List.length_map]; omega, ret.same (q h _ (fun x y x1 x2 hx => by rw [set_off (Ne.symm x2), set_off (Ne.symm x1)]; exact app_at hx) ?_ ?_ (by rw [set_off (Ne.symm hj2), set_off (Ne.symm hi2)]; exact app_at hh) hi2 hj2 (.inl rfl) (by rw [List.length_set, List.length_set, List.length_append]; omega))⟩
    · rw [set_off (Ne.symm ij), set_at (app_at hi)]
      rfl
    · rw [set_at f1, ← List.map_append]
      rfl
  | right n =>
    rw [ixW_row (x := .str (cd "right")) hr1 (by rw [hk]; exact atI_0)]
    walk_at "dw"
    rw [if_neg (by decide +kernel), if_neg (by decide +kernel), if_neg (by decide +kernel)]
    simp only [decide_true]
    walk_at "dw"
    simp only [hi]
    rw [ixW_row (x := .int (n : Nat)) hr1 (by rw [hk]; exact atI_1)]
    walk_at "dw"
    refine ⟨j, n, r, rfl, hok, hj, ?_⟩
    have f1 : ((C ++ [Cell.lst ((nearD n r).map W.d)]).set j (.lst ((farD n r).map W.d)))[i]? = some (.lst (l.map W.d)) := by rw [set_off (Ne.symm ij)]; exact app_at hi
    have f2 : ((C ++ [Cell.lst ((nearD n r).map W.d)]).set j (.lst ((farD n r).map W.d)))[C.length]? = some (.lst ((nearD n r).map W.d)) := by rw [set_off (by omega)]; exact last_at
    have nl := nearD_len n r
    simp only [f1, f2]
    refine ⟨by rw [List.length_map, List.length_map]; omega, ret.same (q h _ (fun x y x1 x2 hx => by rw [set_off (Ne.symm x1), set_off (Ne.symm x2)]; exact app_at hx) ?_ ?_ (by rw [set_off (Ne.symm hi2), set_off (Ne.symm hj2)]; exact app_at hh) hi2 hj2 (.inl rfl) (by rw [List.length_set, List.length_set, List.length_append]; omega))⟩
    · rw [set_at f1, ← List.map_append]
      rfl
    · rw [set_off ij, set_at (app_at hj)]
      rfl
  | rub n =>
    rw [ixW_row (x := .str (cd "rub")) hr1 (by rw [hk]; exact atI_0)]
    walk_at "dw"
    rw [if_neg (by decide +kernel), if_neg (by decide +kernel), if_neg (by decide +kernel), if_neg (by decide +kernel)]
    simp only [decide_true]
    walk_at "dw"
    rw [ixW_row (x := .int (n : Nat)) hr1 (by rw [hk]; exact atI_1)]
    walk_at "dw"
    refine ⟨i, n, l, rfl, hok, hi, ?_⟩
    refine ret.same (q h _ (fun x y x1 x2 hx => by rw [set_off (Ne.symm x1)]; exact app_at hx) ?_ ?_ (by rw [set_off (Ne.symm hi2)]; exact app_at hh) hi2 hj2 (.inl rfl) (by rw [List.length_set, List.length_append]; omega))
    · rw [set_at (app_at hi)]
      rfl
    · rw [set_off ij]
      exact app_at hj
  | strike n =>
    rw [ixW_row (x := .str (cd "strike")) hr1 (by rw [hk]; exact atI_0)]
    walk_at "dw"
    rw [if_neg (by decide +kernel), if_neg (by decide +kernel), if_neg (by decide +kernel), if_neg (by decide +kernel), if_neg (by decide +kernel)]
    simp only [decide_true]
    walk_at "dw"
    rw [ixW_row (x := .int (n : Nat)) hr1 (by rw [hk]; exact atI_1)]
    walk_at "dw"
    refine ⟨j, n, r, rfl, hok, hj, ?_⟩
    refine ret.same (q h _ (fun x y x1 x2 hx => by rw [set_off (Ne.symm x2)]; exact app_at hx) ?_ ?_ (by rw [set_off (Ne.symm hj2)]; exact app_at hh) hi2 hj2 (.inl rfl) (by rw [List.length_set, List.length_append]; omega))
    · rw [set_off (Ne.symm ij)]
      exact app_at hi
    · rw [set_at (app_at hj)]
      rfl
  | copy n =>
    rw [ixW_row (x := .str (cd "copy")) hr1 (by rw [hk]; exact atI_0)]
    walk_at "dw"
    rw [if_neg (by decide +kernel), if_neg (by decide +kernel), if_neg (by decide +kernel), if_neg (by decide +kernel), if_neg (by decide +kernel), if_neg (by decide +kernel)]
    simp only [decide_true]
    walk_at "dw"
    rw [ixW_row (x := .int (n : Nat)) hr1 (by rw [hk]; exact atI_1)]
    walk_at "dw"
    exact ⟨j, n, r, rfl, hok, hj, ret.same (q C.length _ (fun x y x1 x2 hx => app_at hx) (app_at hi) (app_at hj) last_at (by omega) (by omega) (.inr (Nat.le_refl _)) (by rw [List.length_append]; omega))⟩
  | cut n =>
    rw [ixW_row (x := .str (cd "cut")) hr1 (by rw [hk]; exact atI_0)]
    walk_at "dw"
    rw [if_neg (by decide +kernel), if_neg (by decide +kernel), if_neg (by decide +kernel), if_neg (by decide +kernel), if_neg (by decide +kernel), if_neg (by decide +kernel), if_neg (by decide +kernel)]
    walk_at "dw"
    rw [ixW_row (x := .int (n : Nat)) hr1 (by rw [hk]; exact atI_1)]
    walk_at "dw"
    refine ⟨j, n, r, rfl, hok, hj, ret.same (q C.length _ (fun x y x1 x2 hx => by rw [set_off (Ne.symm x2)]; exact app_at hx) (by rw [set_off (Ne.symm ij)]; exact app_at hi) (by rw [set_at (app_at hj)]; rfl) (by rw [set_off (by omega)]; exact last_at) (by omega) (by omega) (.inr (Nat.le_refl _)) (by rw [List.length_set, List.length_append]; omega))⟩

def rowD (z : List Nat) (n : Nat) : List Dt := (List.range n).map fun (i : Nat) => Dt.tup [.str z, .int (i : Nat)]
def spRowD : SpD := fun ws C Q _ => ∃ (z : List Nat) (n : Nat), ws = [.d (.str z), .d (.int n)] ∧ n ≤ 10000 ∧ Q (.o C.length) (C ++ [.lst ((rowD z n).map W.d)])
theorem ok_row_of (T : Txt K mg w) : FnOk P w K mg base CX0 1 T.f_row_of.f T.f_row_of.fd ["side", "many"] (lft K spRowD) := by
  refine okD T.f_row_of.F sc_row_of (fun ws C Q X h => ?_) (fun cv A out s H E hr => ⟨_, (pss_one (ps_ret (pe_lcK [2] (pe_lc (own := [("deep", 2)]) rfl sc_row_of.nd (pi_range1 (by rfl) T.b_range (pa_cons (pv 1) pa_nil)) (blkOk_by (own := [("deep", 2)]) (N := N_row_of) (sc := defScope s_row_of) (by decide +kernel)) (fun _ _ _ _ _ => (pg_name (i := 2) sc_row_of.nd rfl (.inl rfl))) (fun _ _ _ _ _ => pts_nil) (fun _ _ _ _ _ => (pe_tup (pa_cons (pv 0) (pa_cons (pv 2) pa_nil)))))))), _, inferInstance, fun ws C Q X h => ?_⟩)
  · obtain ⟨z, n, rfl, _⟩ := h
    rfl
  obtain ⟨z, n, rfl, hn, q⟩ := h
  walk_at "dw"
  refine ⟨⟨by omega, by omega⟩, ?_⟩
  rw [Int.toNat_natCast]
  refine DLc.gen n (fun i => .d (.int (0 + i))) (fun i ds C' => C' = C ++ [.lst (ds.map W.d)] ∧ ds = rowD z i) (by omega) ⟨rfl, rfl⟩ (fun i ds C' hi _ => itRng_if i C') ?_ ?_
  · rintro i ds C' hi ⟨rfl, rfl⟩ hc R S hR hS
    walk_at "dw"
    refine hR _ _ hc ⟨?_, ?_⟩
    · rw [List.set_append_right _ _ (Nat.le_refl _), Nat.sub_self]
      rfl
    · unfold rowD
      rw [List.range_succ, List.map_append, List.map_singleton, show (0 : Int) + (i : Int) = (i : Nat) by omega]
  · rintro ds C' ⟨rfl, rfl⟩ hc _
    exact .inl (ret.same q)
theorem key_items {e : Dt} {k : Ky} (h : norm e = norm (.tup (kD k))) : isRow e = true ∧ e.items = kD k := by
  have hr : isRow e = true := by rw [← row_norm, h, row_norm]; rfl
  refine ⟨hr, ?_⟩
  have hl := kD_leaf k
  have hi : e.items.map norm = (kD k).map norm := by
    rw [← items_norm, h, items_norm]
    rfl
  have : ∀ (es ds : List Dt), es.map norm = ds.map norm → (∀ d ∈ ds, isRow d = false) → es = ds := fun es => by
    induction es with
    | nil => intro ds h _; cases ds with | nil => rfl | cons _ _ => cases h
    | cons c es ih =>
      intro ds h hd
      cases ds with
      | nil => cases h
      | cons d ds =>
        rw [List.map_cons, List.map_cons] at h
        injection h with h1 h2
        rw [norm_leaf (hd d (List.mem_cons_self ..))] at h1
        rw [leaf_norm h1 (hd d (List.mem_cons_self ..)), ih ds h2 fun x hx => hd x (List.mem_cons_of_mem _ hx)]
  exact this _ _ hi hl
def marksD (i : Nat) (k : Ky) : List Dt := match k with
  | .write w => (List.range w.length).map fun (a : Nat) => Dt.tup [.str (cd "typed"), .int (i : Nat), .int (a : Nat)]
  | _ => []
/-- keys whose letters are told by where they come from -/
def KeysLike (es : List Dt) (ks : List Ky) : Prop := es.length = ks.length ∧ ∀ (i : Nat) k, ks[i]? = some k → ∃ e, es[i]? = some e ∧ KeyLike e k (marksD i k)
theorem KeysLike.snoc {es : List Dt} {ks : List Ky} {e : Dt} {k : Ky} (h : KeysLike es ks) (hk : KeyLike e k (marksD ks.length k)) : KeysLike (es ++ [e]) (ks ++ [k]) := by
  refine ⟨by rw [List.length_append, List.length_append, h.1]; rfl, fun i k' hi => ?_⟩
  by_cases lt : i < ks.length
  · rw [List.getElem?_append_left lt] at hi
    obtain ⟨e', h1, h2⟩ := h.2 i k' hi
    exact ⟨e', by rw [List.getElem?_append_left (by rw [h.1]; exact lt)]; exact h1, h2⟩
  · have le := (List.getElem?_eq_some_iff.mp hi).1
    rw [List.length_append, List.length_singleton] at le
    have : i = ks.length := by omega
    subst this
    rw [List.getElem?_concat_length] at hi
    cases hi
    exact ⟨e, by rw [← h.1]; exact List.getElem?_concat_length, hk⟩
/-- told whole, or an own list of things -/
def HandW (C : Cs) (w : W) (d : Dt) : Prop := w = .d d ∨ ∃ k ds, w = .o k ∧ d = .lst ds ∧ C[k]? = some (.lst (ds.map W.d))
theorem HandW.rds {C : Cs} {w : W} {d : Dt} (h : HandW C w d) : rds C w d := by
  rcases h with rfl | ⟨k, ds, rfl, rfl, hc⟩
  · exact rds_d
  · exact rds_own hc
def spSourcedD : SpD := fun ws C Q _ => ∃ (w : W) (d : Dt) (ks : List Ky), ws = [w] ∧ HandW C w d ∧ norm d = norm (dH ks) ∧ GoodH ks ∧ ∀ es, KeysLike es ks → Q (.d (.lst es)) C
theorem ok_sourced (T : Txt K mg w) : FnOk P w K mg base CX0 1 T.f_sourced.f T.f_sourced.fd ["hand"] (lft K spSourcedD) := by
  refine okD T.f_sourced.F sc_sourced (fun ws C Q X h => ?_) (fun cv A out s H E hr => ⟨_, (pss_cons (ps_set (i := 1) sc_sourced.nd rfl (.inl rfl) (pe_lst pa_nil))
      (pss_cons (ps_for PassesOwn.never rfl (pi_enumRK K (by rfl) T.b_enumerate (pa_cons (pv 0) pa_nil)) (pg_seqK (n := 2) K rfl (pgs_cons (pg_name (i := 2) sc_sourced.nd rfl (.inr rfl)) (pgs_cons (pg_name (i := 3) sc_sourced.nd rfl (.inl rfl)) pgs_nil)))
        (pss_one (ps_if (pt_cmpR (q_eqA K hr.units) (pe_ix (ix_seqK K) (pv 3) pe_int (fun _ _ => rfl)) pe_strL (nomark _)) (pss_one (ps_expr (pe_bmK K PySem.F.plainAttrs_list PySem.F.slot_list_append PySem.F.type_list_append mt_append (pv 1) (pa_cons (pe_tup (pa_cons pe_strL (pa_cons (pe_lcK [4] (pe_lc (own := [("at", 4)]) rfl sc_sourced.nd (pi_range1 (by rfl) T.b_range (pa_cons (pe_callB (call_lenK K) (by rfl) T.b_len (by decide +kernel) (pa_cons (pe_ix (ix_seqK K) (pv 3) pe_int (fun _ _ => rfl)) pa_nil)) pa_nil)) (blkOk_by (own := [("at", 4)]) (N := N_sourced) (sc := defScope s_sourced) (by decide +kernel)) (fun _ _ _ _ _ => (pg_name (i := 4) sc_sourced.nd rfl (.inl rfl))) (fun _ _ _ _ _ => pts_nil) (fun _ _ _ _ _ => (pe_tup (pa_cons pe_strL (pa_cons (pv 2) (pa_cons (pv 4) pa_nil))))))) pa_nil))) pa_nil)))) (pss_one (ps_expr (pe_bmK K PySem.F.plainAttrs_list PySem.F.slot_list_append PySem.F.type_list_append mt_append (pv 1) (pa_cons (pv 3) pa_nil)))))))
      (pss_one (ps_ret (pv 1))))), _, inferInstance, fun ws C Q X h => ?_⟩)
  · obtain ⟨w, d, ks, rfl, _⟩ := h
    rfl
  obtain ⟨w, d, ks, rfl, hw, hd, gk, q⟩ := h
  have fw := gk.few
  have hm : d.items.map norm = ks.map fun k => norm (.tup (kD k)) := by
    rw [← items_norm, hd, items_norm]
    show ((ks.map kyT).map norm) = _
    rw [List.map_map]
    rfl
  have hr1 : isRow d = true := by rw [← row_norm, hd, row_norm]; rfl
  have hl : d.items.length = ks.length := by have := congrArg List.length hm; simpa using this
  have each : ∀ (i : Nat) x, d.items[i]? = some x → ∃ k, ks[i]? = some k ∧ isRow x = true ∧ x.items = kD k := fun i x hx => by
    have e : (d.items.map norm)[i]? = (ks.map fun k => norm (.tup (kD k)))[i]? := by rw [hm]
    rw [List.getElem?_map, List.getElem?_map, hx] at e
    cases hk : ks[i]? with
    | none => rw [hk] at e; cases e
    | some k =>
      rw [hk] at e
      have e : some (norm x) = some (norm (.tup (kD k))) := e
      injection e with e
      exact ⟨k, rfl, key_items e⟩
  obtain ⟨ds, hds, hit⟩ : ∃ ds, (w = .d (.lst ds) ∨ w = .d (.tup ds) ∨ ∃ k, w = .o k ∧ C[k]? = some (.lst (ds.map W.d))) ∧ d.items = ds := by
    rcases hw with rfl | ⟨k, ds, rfl, rfl, hc⟩
    · cases d with
      | lst ds => exact ⟨ds, .inl rfl, rfl⟩
      | tup ds => exact ⟨ds, .inr (.inl rfl), rfl⟩
      | _ => cases hr1
    · exact ⟨ds, .inr (.inr ⟨k, rfl, hc⟩), rfl⟩
  rw [hit] at hl each
  clear hm hit hd hw hr1
  walk_at "dw"
  refine newL_o ?_
  walk_at "dw"
  rcases hds with rfl | rfl | ⟨k0, rfl, hk0⟩
  all_goals
    walk_at "dw"
    try simp only [app_at (ex := [Cell.lst (([] : List Dt).map W.d)]) hk0, hk0, List.map_nil, app_at hk0]
    try walk_at "dw"
    first
    | refine DFor.enum (fun i ρ C' => ∃ es y0 y2 y3 y4, ρ = [y0, some (.o C.length), y2, y3, y4] ∧ C' = C ++ [.lst (es.map W.d)] ∧ KeysLike es (ks.take i)) ⟨[], _, _, _, _, rfl, rfl, rfl, fun i k h => by rw [List.take_zero] at h; cases h⟩ ?_ ?_
    | refine DFor.enumO (ds := ds) (fun i ρ C' => ∃ es y0 y2 y3 y4, ρ = [y0, some (.o C.length), y2, y3, y4] ∧ C' = C ++ [.lst (es.map W.d)] ∧ KeysLike es (ks.take i)) ⟨[], _, _, _, _, rfl, rfl, rfl, fun i k h => by rw [List.take_zero] at h; cases h⟩ (fun i ρ C' h => by obtain ⟨es, _, _, _, _, _, rfl, _⟩ := h; exact app_at hk0) ?_ ?_
    · rintro ρ C' ⟨es, y0, y2, y3, y4, rfl, rfl, kl⟩
      rw [hl, List.take_length] at kl
      walk_at "dw"
      exact ret.made (Nat.le_refl _) last_at (q es kl)
    · rintro i x ρ C' hx ⟨es, y0, y2, y3, y4, rfl, rfl, kl⟩
      obtain ⟨k, hk, hrx, hit⟩ := each i x hx
      have il := (List.getElem?_eq_some_iff.mp hk).1
      have tk : ks.take (i + 1) = ks.take i ++ [k] := by
        rw [List.take_add_one, hk]
        rfl
      have tl : (ks.take i).length = i := by rw [List.length_take]; omega
      have el : es.length = i := kl.1.trans tl
      have put : ∀ e, KeyLike e k (marksD i k) → (es.map W.d).length < 16777216 ∧ ∀ z0 z2 z3 z4 : Option W, ∃ es' y0 y2 y3 y4, ([z0, some (W.o C.length), z2, z3, z4] : Ws) = [y0, some (.o C.length), y2, y3, y4] ∧ (C ++ [Cell.lst (es.map W.d)]).set C.length (.lst (es.map W.d ++ [.d e])) = C ++ [.lst (es'.map W.d)] ∧ KeysLike es' (ks.take (i + 1)) := fun e he => by
        refine ⟨by rw [List.length_map]; omega, fun z0 z2 z3 z4 => ⟨es ++ [e], _, _, _, _, rfl, ?_, ?_⟩⟩
        · rw [List.set_append_right _ _ (Nat.le_refl _), Nat.sub_self, List.map_append]
          rfl
        · rw [tk]
          exact kl.snoc (by rw [tl]; exact he)
      walk_at "dw"
      cases k with
      | write z =>
        rw [ixW_row (x := .str (cd "write")) hrx (by rw [hit]; exact atI_0)]
        walk_at "dw"
        simp only [decide_true]
        walk_at "dw"
        simp only [last_at]
        rw [ixW_row (x := .str z) hrx (by rw [hit]; exact atI_1)]
        walk_at "dw"
        have zl : z.length ≤ 60 := (gk.ok _ (List.mem_of_getElem? hk)).2.1
        refine ⟨⟨by omega, by omega⟩, ?_⟩
        rw [Int.toNat_natCast]
        refine DLc.pure z.length (fun a => .d (.int (0 + a))) (fun (a : Nat) => .tup [.str (cd "typed"), .int (i : Nat), .int (a : Nat)]) (by omega) (fun a C => itRng_if a C) (fun a acc R S ha hR => ?_) ?_
        · walk_at "dw"
          rw [show (0 : Int) + (a : Int) = (a : Nat) by omega]
          exact hR
        · walk_at "dw"
          simp only [last_at]
          have := put (.tup [.str (cd "write"), .lst (marksD i (.write z))]) ⟨rfl, rfl⟩
          exact ⟨this.1, this.2 _ _ _ _⟩
      | paste =>
        rw [ixW_row (x := .str (cd "paste")) hrx (by rw [hit]; exact atI_0)]
        walk_at "dw"
        rw [if_neg (by decide +kernel)]
        simp only [last_at]
        have := put x ⟨hrx, hit⟩
        exact ⟨rfl, this.1, this.2 _ _ _ _⟩
      | left n =>
        rw [ixW_row (x := .str (cd "left")) hrx (by rw [hit]; exact atI_0)]
        walk_at "dw"
        rw [if_neg (by decide +kernel)]
        simp only [last_at]
        have := put x ⟨hrx, hit⟩
        exact ⟨rfl, this.1, this.2 _ _ _ _⟩
      | right n =>
        rw [ixW_row (x := .str (cd "right")) hrx (by rw [hit]; exact atI_0)]
        walk_at "dw"
        rw [if_neg (by decide +kernel)]
        simp only [last_at]
        have := put x ⟨hrx, hit⟩
        exact ⟨rfl, this.1, this.2 _ _ _ _⟩
      | strike n =>
        rw [ixW_row (x := .str (cd "strike")) hrx (by rw [hit]; exact atI_0)]
        walk_at "dw"
        rw [if_neg (by decide +kernel)]
        simp only [last_at]
        have := put x ⟨hrx, hit⟩
        exact ⟨rfl, this.1, this.2 _ _ _ _⟩
      | rub n =>
        rw [ixW_row (x := .str (cd "rub")) hrx (by rw [hit]; exact atI_0)]
        walk_at "dw"
        rw [if_neg (by decide +kernel)]
        simp only [last_at]
        have := put x ⟨hrx, hit⟩
        exact ⟨rfl, this.1, this.2 _ _ _ _⟩
      | copy n =>
        rw [ixW_row (x := .str (cd "copy")) hrx (by rw [hit]; exact atI_0)]
        walk_at "dw"
        rw [if_neg (by decide +kernel)]
        simp only [last_at]
        have := put x ⟨hrx, hit⟩
        exact ⟨rfl, this.1, this.2 _ _ _ _⟩
      | cut n =>
        rw [ixW_row (x := .str (cd "cut")) hrx (by rw [hit]; exact atI_0)]
        walk_at "dw"
        rw [if_neg (by decide +kernel)]
        simp only [last_at]
        have := put x ⟨hrx, hit⟩
        exact ⟨rfl, this.1, this.2 _ _ _ _⟩

/-! ## numbers, keys, hands read -/
def isFigs (z : List Nat) : Bool := z.all ((cd "0123456789").contains ·)
def numIn (z : List Nat) : Option Int := if z = [] ∨ isFigs z = false then none else if z.head? = some 48 ∧ z ≠ [48] then none else if 40 < z.length then some (10 ^ 40) else some ((NumText.digitsVal z : Nat) : Int)
def optI : Option Int → Dt
  | some i => .int i
  | none => .non
theorem figs_digits {z : List Nat} (h : isFigs z = true) : NumText.AllDigits z := fun c hc => by
  have h1 := List.all_eq_true.mp h c hc
  rw [show cd "0123456789" = [48, 49, 50, 51, 52, 53, 54, 55, 56, 57] by decide +kernel] at h1
  simp only [List.contains_iff_mem, List.mem_cons, List.not_mem_nil, or_false] at h1
  omega
def preT1 : List Dt → Prop := fun ds => ∃ z : List Nat, ds = [.str z]
def fNumIn : List Dt → Dt := fun ds => match ds with
  | [.str z] => optI (numIn z)
  | _ => .non
/-! ## elder promises over worths -/
section
theorem fn_adapt {CX : CXT} {k : Nat} {f : Addr} {fd : FuncData} {ps : List Str} {sp : Sp} {pre : List Dt → Prop} {F : List Dt → Dt} (hF : FnOk P w K mg base CX k f fd ps sp) (hl : ∀ ds, pre ds → leaf (F ds) = true)
    (h : ∀ ds vs H Q E, pre ds → Ats K H vs ds → (∀ H' v, Same H H' → At K H' v (F ds) → Q v H') → sp vs H Q E) : FnOk P w K mg base CX k f fd ps (lft K (pureR pre F)) :=
  hF.imp fun vs H Q E x => by
    obtain ⟨ws, C, ad, Qd, Xd, hR, rv, ⟨ds, hr, hp, q⟩, kd, kx⟩ := x
    exact h ds vs H Q E hp (rdss_at hR ds ws vs rv hr) fun H' v e r => kd _ C v H' ad q (hR.same e) (grw_same e) (at_any (hl ds hp) r)
theorem at_blL {L : Hp} {b : Bool} : At K L (.bl b) (.bl b) := by unfold At; rfl
theorem at_nonL {L : Hp} : At K L .non .non := by unfold At; rfl
theorem ats1 {H : Hp} {vs : List V} {d : Dt} (h : Ats K H vs [d]) : ∃ v, vs = [v] ∧ At K H v d := by
  unfold Ats at h
  obtain ⟨v, us, rfl, h1, h2⟩ := h
  unfold Ats at h2
  subst h2
  exact ⟨v, rfl, h1⟩
theorem ats2 {H : Hp} {vs : List V} {d e : Dt} (h : Ats K H vs [d, e]) : ∃ v u, vs = [v, u] ∧ At K H v d ∧ At K H u e := by
  unfold Ats at h
  obtain ⟨v, us, rfl, h1, h2⟩ := h
  obtain ⟨u, rfl, h3⟩ := ats1 h2
  exact ⟨v, u, rfl, h1, h3⟩
theorem ats3 {H : Hp} {vs : List V} {d e f : Dt} (h : Ats K H vs [d, e, f]) : ∃ v u t, vs = [v, u, t] ∧ At K H v d ∧ At K H u e ∧ At K H t f := by
  unfold Ats at h
  obtain ⟨v, us, rfl, h1, h2⟩ := h
  obtain ⟨u, t, rfl, h3, h4⟩ := ats2 h2
  exact ⟨v, u, t, rfl, h1, h3, h4⟩
theorem int_of {H : Hp} {v : V} {i : Int} (h : At K H v (.int i)) : v = .int i := by unfold At at h; exact h
theorem okD_is_row (T : Txt K mg w) : FnOk P w K mg base CX0 1 T.f_is_row.f T.f_is_row.fd ["thing"] (lft K (pureR (fun ds => ∃ d, ds = [d]) fun ds => .bl (isRow (ds.getD 0 .non)))) :=
  fn_adapt (ok_is_row T) (fun _ _ => rfl) fun ds vs H Q E hp ha q => by
    obtain ⟨d, rfl⟩ := hp
    obtain ⟨v, rfl, h1⟩ := ats1 ha
    exact ⟨v, d, rfl, h1, fun H' e => q H' _ e at_blL⟩
theorem okD_is_plain (T : Txt K mg w) : FnOk P w K mg base CX0 1 T.f_is_plain.f T.f_is_plain.fd ["thing"] (lft K (pureR (fun ds => ∃ d, ds = [d]) fun ds => .bl (isPlain (ds.getD 0 .non)))) :=
  fn_adapt (ok_is_plain T) (fun _ _ => rfl) fun ds vs H Q E hp ha q => by
    obtain ⟨d, rfl⟩ := hp
    obtain ⟨v, rfl, h1⟩ := ats1 ha
    exact ⟨v, d, rfl, h1, q H _ (Same.refl _) at_blL⟩
theorem okD_is_within (T : Txt K mg w) : FnOk P w K mg base CX0 2 T.f_is_within.f T.f_is_within.fd ["thing", "low", "high"] (lft K (pureR (fun ds => ∃ d lo hi, ds = [d, .int lo, .int hi]) fun ds => match ds with
  | [d, .int lo, .int hi] => .bl (isWithin d lo hi)
  | _ => .non)) :=
  fn_adapt (ok_is_within T) (fun ds h => by obtain ⟨d, lo, hi, rfl⟩ := h; rfl) fun ds vs H Q E hp ha q => by
    obtain ⟨d, lo, hi, rfl⟩ := hp
    obtain ⟨v, u, t, rfl, h1, h2, h3⟩ := ats3 ha
    have e2 := int_of h2
    have e3 := int_of h3
    subst e2 e3
    exact ⟨v, d, lo, hi, rfl, h1, q H _ (Same.refl _) at_blL⟩
/-- a hand, dressed anyhow -/
def isHandOf (d : Dt) (ks : List Ky) : Prop := norm d = norm (dH ks) ∧ GoodH ks
theorem okD_is_hand (T : Txt K mg w) : FnOk P w K mg base CX0 5 T.f_is_hand.f T.f_is_hand.fd ["thing"] (lft K (pureR (fun ds => ∃ d ks, ds = [d] ∧ isHandOf d ks) fun _ => .bl true)) :=
  fn_adapt (ok_is_hand T) (fun _ _ => rfl) fun ds vs H Q E hp ha q => by
    obtain ⟨d, ks, rfl, hn, gk⟩ := hp
    obtain ⟨v, rfl, h1⟩ := ats1 ha
    exact ⟨v, ks, rfl, handAt_of h1 hn, gk, fun H' e => q H' _ e at_blL⟩
theorem okD_check_hand (T : Txt K mg w) : FnOk P w K mg base CX0 6 T.f_check_hand.f T.f_check_hand.fd ["thing"] (lft K (pureR (fun ds => ∃ d ks, ds = [d] ∧ isHandOf d ks) fun _ => .non)) :=
  fn_adapt (ok_check_hand T) (fun _ _ => rfl) fun ds vs H Q E hp ha q => by
    obtain ⟨d, ks, rfl, hn, gk⟩ := hp
    obtain ⟨v, rfl, h1⟩ := ats1 ha
    exact ⟨v, ks, rfl, handAt_of h1 hn, gk, fun H' e => q H' _ e at_nonL⟩
end

theorem okD_is_whole (T : Txt K mg w) : FnOk P w K mg base CX0 1 T.f_is_whole.f T.f_is_whole.fd ["thing", "low"] (lft K (pureR (fun ds => ∃ d lo, ds = [d, .int lo]) fun ds => match ds with
  | [d, .int lo] => .bl (isWhole d lo)
  | _ => .non)) :=
  fn_adapt (ok_is_whole T) (fun ds h => by obtain ⟨d, lo, rfl⟩ := h; rfl) fun ds vs H Q E hp ha q => by
    obtain ⟨d, lo, rfl⟩ := hp
    obtain ⟨v, u, rfl, h1, h2⟩ := ats2 ha
    have e2 := int_of h2
    subst e2
    exact ⟨v, d, lo, rfl, h1, q H _ (Same.refl _) at_blL⟩
theorem rdss2 {C : Cs} {x y : Dt} : rdss C [.d x, .d y] [x, y] := by
  unfold rdss
  exact ⟨_, _, rfl, rds_d, rdss1 rds_d⟩
theorem rdss3 {C : Cs} {x y z : Dt} : rdss C [.d x, .d y, .d z] [x, y, z] := by
  unfold rdss
  exact ⟨_, _, rfl, rds_d, rdss2⟩
/-- three lengths, dressed anyhow -/
def LenLike (d : Dt) (L R c : Nat) : Prop := isRow d = true ∧ d.items = [.int (L : Nat), .int (R : Nat), .int (c : Nat)]

/-! ## letters traced -/
structure Sid where
  l : List Dt
  r : List Dt
  c : List Dt
def kst (ks : List Ky) (s : Sid) : Nat → Sid
  | 0 => s
  | i + 1 => match ks[i]? with
    | some k => ⟨(kstep k (marksD i k) (kst ks s i).l (kst ks s i).r (kst ks s i).c).1, (kstep k (marksD i k) (kst ks s i).l (kst ks s i).r (kst ks s i).c).2.1, (kstep k (marksD i k) (kst ks s i).l (kst ks s i).r (kst ks s i).c).2.2⟩
    | none => kst ks s i
theorem farnear_len (n : Nat) (x : List Dt) : (farD n x).length + (nearD n x).length = x.length := by
  unfold farD nearD
  rw [List.length_take, List.length_reverse, List.length_drop]
  omega
theorem nearD_le (n : Nat) (x : List Dt) : (nearD n x).length ≤ n := by
  unfold nearD
  rw [List.length_reverse, List.length_drop]
  omega
theorem kstep_size {k : Ky} {i : Nat} {l r c : List Dt} (hk : k.wt ≤ 60) (hc : c.length ≤ 60) : (marksD i k).length ≤ 60 ∧ (kstep k (marksD i k) l r c).1.length + (kstep k (marksD i k) l r c).2.1.length ≤ l.length + r.length + 60 ∧ (kstep k (marksD i k) l r c).2.2.length ≤ 60 := by
  cases k with
  | write w =>
    have : (marksD i (.write w)).length = w.length := by unfold marksD; rw [List.length_map, List.length_range]
    have hw : w.length ≤ 60 := hk
    refine ⟨by omega, ?_, hc⟩
    show (l ++ _).length + r.length ≤ _
    rw [List.length_append]
    omega
  | paste =>
    refine ⟨Nat.zero_le _, ?_, hc⟩
    show (l ++ c).length + r.length ≤ _
    rw [List.length_append]
    omega
  | left n =>
    have := farnear_len n l
    refine ⟨Nat.zero_le _, ?_, hc⟩
    show (farD n l).length + (r ++ nearD n l).length ≤ _
    rw [List.length_append]
    omega
  | right n =>
    have := farnear_len n r
    refine ⟨Nat.zero_le _, ?_, hc⟩
    show (l ++ nearD n r).length + (farD n r).length ≤ _
    rw [List.length_append]
    omega
  | rub n =>
    have := farnear_len n l
    refine ⟨Nat.zero_le _, ?_, hc⟩
    show (farD n l).length + r.length ≤ _
    omega
  | strike n =>
    have := farnear_len n r
    refine ⟨Nat.zero_le _, ?_, hc⟩
    show l.length + (farD n r).length ≤ _
    omega
  | copy n =>
    have := nearD_le n r
    have hn : n ≤ 60 := hk
    refine ⟨Nat.zero_le _, ?_, ?_⟩
    · show l.length + r.length ≤ _
      omega
    · show (nearD n r).length ≤ 60
      omega
  | cut n =>
    have := nearD_le n r
    have := farnear_len n r
    have hn : n ≤ 60 := hk
    refine ⟨Nat.zero_le _, ?_, ?_⟩
    · show l.length + (farD n r).length ≤ _
      omega
    · show (nearD n r).length ≤ 60
      omega
theorem rowD_len (z : List Nat) (n : Nat) : (rowD z n).length = n := by unfold rowD; rw [List.length_map, List.length_range]
def sid0 (L R c : Nat) : Sid := ⟨(rowD (cd "left") L).reverse, (rowD (cd "right") R).reverse, rowD (cd "clip") c⟩
/-- the table of a hand -/
def tabD (ks : List Ky) (L R c : Nat) : Sid := ⟨(kst ks (sid0 L R c) ks.length).l.reverse, (kst ks (sid0 L R c) ks.length).r.reverse, (kst ks (sid0 L R c) ks.length).c⟩
/-- a table told: three lists of its own -/
structure TabO (n : Nat) (C : Cs) (t i j h : Nat) (s : Sid) : Prop where
  row : C[t]? = some (.tup [.o i, .o j, .o h])
  l : C[i]? = some (.lst (s.l.map W.d))
  r : C[j]? = some (.lst (s.r.map W.d))
  c : C[h]? = some (.lst (s.c.map W.d))
  dis : i ≠ j ∧ h ≠ i ∧ h ≠ j
  new : n ≤ i ∧ n ≤ j ∧ n ≤ h ∧ n ≤ t
def spTraceD : SpD := fun ws C Q _ => ∃ (es : List Dt) (d : Dt) (ks : List Ky) (L R c : Nat), ws = [.d (.lst es), .d d] ∧ KeysLike es ks ∧ GoodH ks ∧ LenLike d L R c ∧ c ≤ 60 ∧ L ≤ 200 ∧ R ≤ 200 ∧
  ∀ t i j h C', (∀ (x : Nat) y, C[x]? = some y → C'[x]? = some y) → TabO C.length C' t i j h (tabD ks L R c) → Q (.o t) C'
theorem ok_trace (T : Txt K mg w) : FnOk P w K mg base CX0 4 T.f_trace.f T.f_trace.fd ["keys", "lengths"] (lft K spTraceD) := by
  refine okD T.f_trace.F sc_trace (fun ws C Q X h => ?_) (fun cv A out s H E hr => ⟨_, (pss_cons (ps_set (i := 2) sc_trace.nd rfl (.inl rfl) (pe_call (ok_row_of T) (hr.mono (by first | decide | omega)) (by rfl) T.f_row_of.g T.f_row_of.F.kp T.f_row_of.b .nil pass0 (pa_cons pe_strL (pa_cons (pe_ix (ix_seqK K) (pv 1) pe_int (fun _ _ => rfl)) pa_nil))))
      (pss_cons (ps_set (i := 3) sc_trace.nd rfl (.inl rfl) (pe_call (ok_row_of T) (hr.mono (by first | decide | omega)) (by rfl) T.f_row_of.g T.f_row_of.F.kp T.f_row_of.b .nil pass0 (pa_cons pe_strL (pa_cons (pe_ix (ix_seqK K) (pv 1) pe_int (fun _ _ => rfl)) pa_nil))))
      (pss_cons (ps_set (i := 4) sc_trace.nd rfl (.inl rfl) (pe_call (ok_row_of T) (hr.mono (by first | decide | omega)) (by rfl) T.f_row_of.g T.f_row_of.F.kp T.f_row_of.b .nil pass0 (pa_cons pe_strL (pa_cons (pe_ix (ix_seqK K) (pv 1) pe_int (fun _ _ => rfl)) pa_nil))))
      (pss_cons (ps_expr (pe_bm0K K PySem.F.plainAttrs_list PySem.F.slot_list_reverse PySem.F.type_list_reverse mt_reverse (pv 2)))
      (pss_cons (ps_expr (pe_bm0K K PySem.F.plainAttrs_list PySem.F.slot_list_reverse PySem.F.type_list_reverse mt_reverse (pv 3)))
      (pss_cons (ps_for PassesOwn.never rfl (pi_row K (pv 0)) (pg_name (i := 5) sc_trace.nd rfl (.inl rfl))
        (pss_one (ps_set (i := 4) sc_trace.nd rfl (.inl rfl) (pe_call (ok_do_key T) (hr.mono (by first | decide | omega)) (by rfl) T.f_do_key.g T.f_do_key.F.kp T.f_do_key.b .nil pass0 (pa_cons (pv 5) (pa_cons (pv 2) (pa_cons (pv 3) (pa_cons (pv 4) pa_nil))))))))
      (pss_cons (ps_expr (pe_bm0K K PySem.F.plainAttrs_list PySem.F.slot_list_reverse PySem.F.type_list_reverse mt_reverse (pv 2)))
      (pss_cons (ps_expr (pe_bm0K K PySem.F.plainAttrs_list PySem.F.slot_list_reverse PySem.F.type_list_reverse mt_reverse (pv 3)))
      (pss_one (ps_ret (pe_tup (pa_cons (pv 2) (pa_cons (pv 3) (pa_cons (pv 4) pa_nil)))))))))))))), _, inferInstance, fun ws C Q X h => ?_⟩)
  · obtain ⟨es, d, ks, L, R, c, rfl, _⟩ := h
    rfl
  obtain ⟨es, d, ks, L, R, c, rfl, kl, gk, ⟨hr1, hit⟩, hc, hL, hR, q⟩ := h
  have fw := gk.few
  walk_at "dw"
  rw [ixW_row (x := .int (L : Nat)) hr1 (by rw [hit]; exact atI_0)]
  walk_at "dw"
  refine ⟨cd "left", L, rfl, by omega, ?_⟩
  walk_at "dw"
  rw [ixW_row (x := .int (R : Nat)) hr1 (by rw [hit]; exact atI_1)]
  walk_at "dw"
  refine ⟨cd "right", R, rfl, by omega, ?_⟩
  walk_at "dw"
  rw [ixW_row (x := .int (c : Nat)) hr1 (by rw [hit]; exact atI_2)]
  walk_at "dw"
  refine ⟨cd "clip", c, rfl, by omega, ?_⟩
  walk_at "dw"
  simp only [List.length_append, List.length_singleton, Nat.add_assoc, Nat.reduceAdd]
  obtain ⟨D, hD⟩ : ∃ D, D = C ++ [Cell.lst ((rowD (cd "left") L).map W.d)] ++ [Cell.lst ((rowD (cd "right") R).map W.d)] ++ [Cell.lst ((rowD (cd "clip") c).map W.d)] := ⟨_, rfl⟩
  have a1 : D[C.length]? = some (Cell.lst ((rowD (cd "left") L).map W.d)) := by rw [hD]; exact app_at (app_at last_at)
  have a2 : D[C.length + 1]? = some (Cell.lst ((rowD (cd "right") R).map W.d)) := by
    rw [hD]
    have := app_at (ex := [Cell.lst ((rowD (cd "clip") c).map W.d)]) (last_at (C := C ++ [Cell.lst ((rowD (cd "left") L).map W.d)]) (c := Cell.lst ((rowD (cd "right") R).map W.d)))
    rw [List.length_append, List.length_singleton] at this
    exact this
  have a3 : D[C.length + 2]? = some (Cell.lst ((rowD (cd "clip") c).map W.d)) := by
    rw [hD]
    have := last_at (C := C ++ [Cell.lst ((rowD (cd "left") L).map W.d)] ++ [Cell.lst ((rowD (cd "right") R).map W.d)]) (c := Cell.lst ((rowD (cd "clip") c).map W.d))
    rw [List.length_append, List.length_append, List.length_singleton, List.length_singleton] at this
    exact this
  have ext : ∀ (x : Nat) y, C[x]? = some y → D[x]? = some y := fun x y h => by rw [hD]; exact app_at (app_at (app_at h))
  rw [← hD]
  clear hD
  simp only [a1, set_off (show C.length ≠ C.length + 1 by omega), a2, Option.isSome_some, true_and]
  have wt : ∀ k ∈ ks, k.wt ≤ 60 := fun k hk => Nat.le_trans (hwt_mem hk) gk.wt
  refine DFor.dlist (fun i ρ C' => ∃ (h : Nat) (y5 : Option W), ρ = [some (.d (.lst es)), some (.d d), some (.o C.length), some (.o (C.length + 1)), some (.o h), y5] ∧ (∀ (x : Nat) y, C[x]? = some y → C'[x]? = some y) ∧ C'[C.length]? = some (.lst ((kst ks (sid0 L R c) i).l.map W.d)) ∧ C'[C.length + 1]? = some (.lst ((kst ks (sid0 L R c) i).r.map W.d)) ∧ C'[h]? = some (.lst ((kst ks (sid0 L R c) i).c.map W.d)) ∧ h ≠ C.length ∧ h ≠ C.length + 1 ∧ C.length ≤ h ∧ (kst ks (sid0 L R c) i).l.length + (kst ks (sid0 L R c) i).r.length ≤ L + R + 60 * i ∧ (kst ks (sid0 L R c) i).c.length ≤ 60)
    ⟨C.length + 2, _, rfl, fun x y hx => ?_, ?_, ?_, ?_, by omega, by omega, by omega, ?_, ?_⟩ ?_ ?_
  · have := lt_at hx
    rw [set_off (by omega), set_off (by omega)]
    exact ext x y hx
  · rw [set_off (by omega), set_at a1, ← List.map_reverse]
    rfl
  · rw [set_at (c := Cell.lst ((rowD (cd "right") R).map W.d)) (by rw [set_off (by omega)]; exact a2), ← List.map_reverse]
    rfl
  · rw [set_off (by omega), set_off (by omega)]
    exact a3
  · show (rowD (cd "left") L).reverse.length + (rowD (cd "right") R).reverse.length ≤ _
    rw [List.length_reverse, List.length_reverse, rowD_len, rowD_len]
    omega
  · show (rowD (cd "clip") c).length ≤ 60
    rw [rowD_len]
    exact hc
  · rintro ρ C' ⟨h, y5, rfl, kp, f1, f2, f3, h1, h2, h3, z1, z2⟩
    rw [kl.1] at f1 f2 f3
    walk_at "dw"
    have g2 : (C'.set C.length (.lst ((kst ks (sid0 L R c) ks.length).l.map W.d).reverse))[C.length + 1]? = some (.lst ((kst ks (sid0 L R c) ks.length).r.map W.d)) := by rw [set_off (by omega)]; exact f2
    simp only [f1, g2, Option.isSome_some, true_and]
    walk_at "dw"
    have l1 := lt_at f1
    refine ret.same (q _ C.length (C.length + 1) h _ (fun x y hx => ?_) ⟨last_at, ?_, ?_, ?_, ⟨by omega, h1, h2⟩, ⟨Nat.le_refl _, by omega, h3, by rw [List.length_set, List.length_set]; omega⟩⟩)
    · have := lt_at hx
      refine app_at ?_
      rw [set_off (by omega), set_off (by omega)]
      exact kp x y hx
    · refine app_at ?_
      rw [set_off (by omega), set_at f1, ← List.map_reverse]
      rfl
    · refine app_at ?_
      rw [set_at g2, ← List.map_reverse]
      rfl
    · refine app_at ?_
      rw [set_off (Ne.symm h2), set_off (Ne.symm h1)]
      exact f3
  · rintro i x ρ C' hx ⟨h, y5, rfl, kp, f1, f2, f3, h1, h2, h3, z1, z2⟩
    have il := (List.getElem?_eq_some_iff.mp hx).1
    rw [kl.1] at il
    obtain ⟨e, he, hke⟩ := kl.2 i ks[i] (List.getElem?_eq_getElem il)
    rw [hx] at he
    cases he
    have sz := kstep_size (k := ks[i]) (i := i) (l := (kst ks (sid0 L R c) i).l) (r := (kst ks (sid0 L R c) i).r) (wt _ (List.getElem_mem il)) z2
    have ek : kst ks (sid0 L R c) (i + 1) = ⟨(kstep ks[i] (marksD i ks[i]) (kst ks (sid0 L R c) i).l (kst ks (sid0 L R c) i).r (kst ks (sid0 L R c) i).c).1, (kstep ks[i] (marksD i ks[i]) (kst ks (sid0 L R c) i).l (kst ks (sid0 L R c) i).r (kst ks (sid0 L R c) i).c).2.1, (kstep ks[i] (marksD i ks[i]) (kst ks (sid0 L R c) i).l (kst ks (sid0 L R c) i).r (kst ks (sid0 L R c) i).c).2.2⟩ := by
      show (match ks[i]? with | some k => _ | none => _) = _
      rw [List.getElem?_eq_getElem il]
    rw [ek]
    walk_at "dw"
    refine ⟨x, ks[i], marksD i ks[i], _, _, _, C.length, C.length + 1, h, rfl, hke, gk.ok _ (List.getElem_mem il), f1, f2, f3, by omega, h1, h2, by omega, fun h' C2 k1 e1 e2 e3 n1 n2 n3 n4 => ?_⟩
    walk_at "dw"
    have lf := lt_at f1
    exact ⟨h', _, rfl, fun y z hy => k1 y z (by have := lt_at hy; omega) (by have := lt_at hy; omega) (kp y z hy), e1, e2, e3, n1, n2, by omega, by omega, by omega⟩
def spTableD : SpD := fun ws C Q _ => ∃ (w : W) (dh dl : Dt) (ks : List Ky) (L R c : Nat), ws = [w, .d dl] ∧ HandW C w dh ∧ isHandOf dh ks ∧ LenLike dl L R c ∧ c ≤ 60 ∧ L ≤ 200 ∧ R ≤ 200 ∧
  ∀ t i j h C', (∀ (x : Nat) y, C[x]? = some y → C'[x]? = some y) → TabO C.length C' t i j h (tabD ks L R c) → Q (.o t) C'

/-- no key is cut short on that side -/
def fitK (b : Bool) (k : Ky) (s : Ln) : Prop := ∀ n, need b k = some n → n ≤ lside b s
def fits (b : Bool) : List Ky → Ln → Prop
  | [], _ => True
  | k :: ks, s => fitK b k s ∧ fits b ks (lstep k s)
theorem left_fits : ∀ (ks : List Ky) (x : Ln) (m : Int) (s : Ln) (l0 : Int), x.l + l0 ≤ s.l + 60 → x.r ≤ s.r → x.c ≤ s.c → hwt ks ≤ x.l → 60 ≤ l0 + (lfold true ks (x, m)).2 → fits true ks s
  | [], _, _, _, _, _, _, _, _, _ => trivial
  | k :: ks, x, m, s, l0, h1, h2, h3, h4, h5 => by
    rw [hwt_cons] at h4
    have h5 : 60 ≤ l0 + (lfold true ks (lrs true (x, m) k)).2 := h5
    have h6 := lfold_le true ks (lrs true (x, m) k)
    have go := left_fits ks (lstep k x) (lrs true (x, m) k).2 (lstep k s) l0
    cases k with
    | write w =>
      refine ⟨(fun n h => by cases h), go ?_ h2 h3 ?_ h5⟩
      · show ((x.l + w.length : Nat) : Int) + l0 ≤ ((s.l + w.length : Nat) : Int) + 60
        omega
      · show _ ≤ x.l + w.length
        omega
    | paste =>
      refine ⟨(fun n h => by cases h), go ?_ h2 h3 ?_ h5⟩
      · show ((x.l + x.c : Nat) : Int) + l0 ≤ ((s.l + s.c : Nat) : Int) + 60
        omega
      · show _ ≤ x.l + x.c
        omega
    | left n =>
      have h7 : (lfold true ks (lrs true (x, m) (.left n))).2 ≤ min m ((x.l : Nat) - (n : Int)) := h6
      have h4 : n + hwt ks ≤ x.l := h4
      refine ⟨fun j h => ?_, go ?_ ?_ h3 ?_ h5⟩
      · have e := Option.some.inj (show some n = some j from h)
        show j ≤ s.l
        omega
      · show ((x.l - n : Nat) : Int) + l0 ≤ ((s.l - n : Nat) : Int) + 60
        omega
      · show x.r + min n x.l ≤ s.r + min n s.l
        omega
      · show _ ≤ x.l - n
        omega
    | rub n =>
      have h7 : (lfold true ks (lrs true (x, m) (.rub n))).2 ≤ min m ((x.l : Nat) - (n : Int)) := h6
      have h4 : n + hwt ks ≤ x.l := h4
      refine ⟨fun j h => ?_, go ?_ h2 h3 ?_ h5⟩
      · have e := Option.some.inj (show some n = some j from h)
        show j ≤ s.l
        omega
      · show ((x.l - n : Nat) : Int) + l0 ≤ ((s.l - n : Nat) : Int) + 60
        omega
      · show _ ≤ x.l - n
        omega
    | right n =>
      refine ⟨(fun j h => by cases h), go ?_ ?_ h3 ?_ h5⟩
      · show ((x.l + min n x.r : Nat) : Int) + l0 ≤ ((s.l + min n s.r : Nat) : Int) + 60
        omega
      · show x.r - n ≤ s.r - n
        omega
      · show _ ≤ x.l + min n x.r
        omega
    | strike n =>
      refine ⟨(fun j h => by cases h), go h1 ?_ h3 (by show _ ≤ x.l; omega) h5⟩
      show x.r - n ≤ s.r - n
      omega
    | copy n =>
      refine ⟨(fun j h => by cases h), go h1 h2 ?_ (by show _ ≤ x.l; omega) h5⟩
      show min n x.r ≤ min n s.r
      omega
    | cut n =>
      refine ⟨(fun j h => by cases h), go h1 ?_ ?_ (by show _ ≤ x.l; omega) h5⟩
      · show x.r - n ≤ s.r - n
        omega
      · show min n x.r ≤ min n s.r
        omega
theorem right_fits : ∀ (ks : List Ky) (x : Ln) (m : Int) (s : Ln) (r0 : Int), x.r + r0 ≤ s.r + 60 → x.l ≤ s.l → x.c ≤ s.c → hwt ks ≤ x.r → 60 ≤ r0 + (lfold false ks (x, m)).2 → fits false ks s
  | [], _, _, _, _, _, _, _, _, _ => trivial
  | k :: ks, x, m, s, r0, h1, h2, h3, h4, h5 => by
    rw [hwt_cons] at h4
    have h5 : 60 ≤ r0 + (lfold false ks (lrs false (x, m) k)).2 := h5
    have h6 := lfold_le false ks (lrs false (x, m) k)
    have go := right_fits ks (lstep k x) (lrs false (x, m) k).2 (lstep k s) r0
    cases k with
    | write w =>
      refine ⟨(fun n h => by cases h), go h1 ?_ h3 (by show _ ≤ x.r; omega) h5⟩
      show x.l + w.length ≤ s.l + w.length
      omega
    | paste =>
      refine ⟨(fun n h => by cases h), go h1 ?_ h3 (by show _ ≤ x.r; omega) h5⟩
      show x.l + x.c ≤ s.l + s.c
      omega
    | left n =>
      refine ⟨(fun j h => by cases h), go ?_ ?_ h3 ?_ h5⟩
      · show ((x.r + min n x.l : Nat) : Int) + r0 ≤ ((s.r + min n s.l : Nat) : Int) + 60
        omega
      · show x.l - n ≤ s.l - n
        omega
      · show _ ≤ x.r + min n x.l
        omega
    | rub n =>
      refine ⟨(fun j h => by cases h), go h1 ?_ h3 (by show _ ≤ x.r; omega) h5⟩
      show x.l - n ≤ s.l - n
      omega
    | right n =>
      have h7 : (lfold false ks (lrs false (x, m) (.right n))).2 ≤ min m ((x.r : Nat) - (n : Int)) := h6
      have h4 : n + hwt ks ≤ x.r := h4
      refine ⟨fun j h => ?_, go ?_ ?_ h3 ?_ h5⟩
      · have e := Option.some.inj (show some n = some j from h)
        show j ≤ s.r
        omega
      · show ((x.r - n : Nat) : Int) + r0 ≤ ((s.r - n : Nat) : Int) + 60
        omega
      · show x.l + min n x.r ≤ s.l + min n s.r
        omega
      · show _ ≤ x.r - n
        omega
    | strike n =>
      have h7 : (lfold false ks (lrs false (x, m) (.strike n))).2 ≤ min m ((x.r : Nat) - (n : Int)) := h6
      have h4 : n + hwt ks ≤ x.r := h4
      refine ⟨fun j h => ?_, go ?_ h2 h3 ?_ h5⟩
      · have e := Option.some.inj (show some n = some j from h)
        show j ≤ s.r
        omega
      · show ((x.r - n : Nat) : Int) + r0 ≤ ((s.r - n : Nat) : Int) + 60
        omega
      · show _ ≤ x.r - n
        omega
    | copy n =>
      have h7 : (lfold false ks (lrs false (x, m) (.copy n))).2 ≤ min m ((x.r : Nat) - (n : Int)) := h6
      have h4 : n + hwt ks ≤ x.r := h4
      refine ⟨fun j h => ?_, go h1 h2 ?_ (by show _ ≤ x.r; omega) h5⟩
      · have e := Option.some.inj (show some n = some j from h)
        show j ≤ s.r
        omega
      · show min n x.r ≤ min n s.r
        omega
    | cut n =>
      have h7 : (lfold false ks (lrs false (x, m) (.cut n))).2 ≤ min m ((x.r : Nat) - (n : Int)) := h6
      have h4 : n + hwt ks ≤ x.r := h4
      refine ⟨fun j h => ?_, go ?_ h2 ?_ ?_ h5⟩
      · have e := Option.some.inj (show some n = some j from h)
        show j ≤ s.r
        omega
      · show ((x.r - n : Nat) : Int) + r0 ≤ ((s.r - n : Nat) : Int) + 60
        omega
      · show min n x.r ≤ min n s.r
        omega
      · show _ ≤ x.r - n
        omega
/-- more letters farther off -/
def far {α : Type} (M N : List α) (s : Sd α) : Sd α := ⟨M ++ s.l, N ++ s.r, s.c⟩
theorem near_far {α : Type} (M : List α) {s : List α} {n : Nat} (h : n ≤ s.length) : near (M ++ s) n = near s n ∧ rest (M ++ s) n = M ++ rest s n := by
  unfold near rest
  rw [List.length_append, show M.length + s.length - n = M.length + (s.length - n) by omega, List.drop_append, List.take_append]
  rw [List.drop_of_length_le (by omega), List.take_of_length_le (by omega), show M.length + (s.length - n) - M.length = s.length - n by omega]
  exact ⟨rfl, rfl⟩
theorem step_far {α : Type} (f : Nat → α) (M N : List α) (k : Ky) (s : Sd α) (h1 : fitK true k s.ln) (h2 : fitK false k s.ln) : step f k (far M N s) = far M N (step f k s) := by
  cases k with
  | write w =>
    show Sd.mk ((M ++ s.l) ++ w.map f) _ _ = Sd.mk (M ++ (s.l ++ w.map f)) _ _
    rw [List.append_assoc]
    rfl
  | paste =>
    show Sd.mk ((M ++ s.l) ++ s.c) _ _ = Sd.mk (M ++ (s.l ++ s.c)) _ _
    rw [List.append_assoc]
    rfl
  | left n =>
    obtain ⟨e1, e2⟩ := near_far M (s := s.l) (h1 n rfl)
    show Sd.mk (rest (M ++ s.l) n) ((N ++ s.r) ++ near (M ++ s.l) n) _ = Sd.mk (M ++ rest s.l n) (N ++ (s.r ++ near s.l n)) _
    rw [e1, e2, List.append_assoc]
    rfl
  | rub n =>
    obtain ⟨e1, e2⟩ := near_far M (s := s.l) (h1 n rfl)
    show Sd.mk (rest (M ++ s.l) n) _ _ = Sd.mk (M ++ rest s.l n) _ _
    rw [e2]
    rfl
  | right n =>
    obtain ⟨e1, e2⟩ := near_far N (s := s.r) (h2 n rfl)
    show Sd.mk ((M ++ s.l) ++ near (N ++ s.r) n) (rest (N ++ s.r) n) _ = Sd.mk (M ++ (s.l ++ near s.r n)) (N ++ rest s.r n) _
    rw [e1, e2, List.append_assoc]
    rfl
  | strike n =>
    obtain ⟨e1, e2⟩ := near_far N (s := s.r) (h2 n rfl)
    show Sd.mk _ (rest (N ++ s.r) n) _ = Sd.mk _ (N ++ rest s.r n) _
    rw [e2]
    rfl
  | copy n =>
    obtain ⟨e1, e2⟩ := near_far N (s := s.r) (h2 n rfl)
    show Sd.mk _ _ (near (N ++ s.r) n) = Sd.mk _ _ (near s.r n)
    rw [e1]
    rfl
  | cut n =>
    obtain ⟨e1, e2⟩ := near_far N (s := s.r) (h2 n rfl)
    show Sd.mk _ (rest (N ++ s.r) n) (near (N ++ s.r) n) = Sd.mk _ (N ++ rest s.r n) (near s.r n)
    rw [e1, e2]
    rfl
theorem steps_far {α : Type} (f : Nat → α) (M N : List α) : ∀ (ks : List Ky) (s : Sd α), fits true ks s.ln → fits false ks s.ln → steps f ks (far M N s) = far M N (steps f ks s)
  | [], _, _, _ => rfl
  | k :: ks, s, h1, h2 => by
    rw [steps_cons, steps_cons, step_far f M N k s h1.1 h2.1]
    refine steps_far f M N ks (step f k s) ?_ ?_
    · rw [step_ln]
      exact h1.2
    · rw [step_ln]
      exact h2.2

theorem left_tight : ∀ (ks : List Ky) (x s : Ln) (m d : Int), (x.l : Int) = s.l + d → x.r = s.r → x.c = s.c → hwt ks ≤ x.l → fits true ks s → min m d ≤ (lfold true ks (x, m)).2
  | [], x, s, m, d, _, _, _, _, _ => Int.min_le_left m d
  | k :: ks, x, s, m, d, h1, h2, h3, h4, ⟨h5, h6⟩ => by
    rw [hwt_cons] at h4
    have go := fun m' (e1 : ((lstep k x).l : Int) = (lstep k s).l + d) (e2 : (lstep k x).r = (lstep k s).r) (e3 : (lstep k x).c = (lstep k s).c) (e4 : hwt ks ≤ (lstep k x).l) => left_tight ks (lstep k x) (lstep k s) m' d e1 e2 e3 e4 h6
    cases k with
    | write w =>
      refine go m ?_ h2 h3 (by show _ ≤ x.l + w.length; omega)
      show ((x.l + w.length : Nat) : Int) = ((s.l + w.length : Nat) : Int) + d
      omega
    | paste =>
      refine go m ?_ h2 h3 (by show _ ≤ x.l + x.c; omega)
      show ((x.l + x.c : Nat) : Int) = ((s.l + s.c : Nat) : Int) + d
      omega
    | left n =>
      have h4 : n + hwt ks ≤ x.l := h4
      have hn : n ≤ s.l := h5 n rfl
      have hx : n ≤ x.l := by omega
      have := go (min m ((x.l : Nat) - (n : Int))) (by show ((x.l - n : Nat) : Int) = ((s.l - n : Nat) : Int) + d; omega) (by show x.r + min n x.l = s.r + min n s.l; omega) h3 (by show _ ≤ x.l - n; omega)
      refine Int.le_trans ?_ this
      omega
    | rub n =>
      have h4 : n + hwt ks ≤ x.l := h4
      have hn : n ≤ s.l := h5 n rfl
      have hx : n ≤ x.l := by omega
      have := go (min m ((x.l : Nat) - (n : Int))) (by show ((x.l - n : Nat) : Int) = ((s.l - n : Nat) : Int) + d; omega) h2 h3 (by show _ ≤ x.l - n; omega)
      refine Int.le_trans ?_ this
      omega
    | right n => exact go m (by show ((x.l + min n x.r : Nat) : Int) = ((s.l + min n s.r : Nat) : Int) + d; rw [h2]; omega) (by show x.r - n = s.r - n; rw [h2]) h3 (by show _ ≤ x.l + min n x.r; omega)
    | strike n => exact go m h1 (by show x.r - n = s.r - n; rw [h2]) h3 (by show _ ≤ x.l; omega)
    | copy n => exact go m h1 h2 (by show min n x.r = min n s.r; rw [h2]) (by show _ ≤ x.l; omega)
    | cut n => exact go m h1 (by show x.r - n = s.r - n; rw [h2]) (by show min n x.r = min n s.r; rw [h2]) (by show _ ≤ x.l; omega)
theorem right_tight : ∀ (ks : List Ky) (x s : Ln) (m d : Int), (x.r : Int) = s.r + d → x.l = s.l → x.c = s.c → hwt ks ≤ x.r → fits false ks s → min m d ≤ (lfold false ks (x, m)).2
  | [], x, s, m, d, _, _, _, _, _ => Int.min_le_left m d
  | k :: ks, x, s, m, d, h1, h2, h3, h4, ⟨h5, h6⟩ => by
    rw [hwt_cons] at h4
    have go := fun m' (e1 : ((lstep k x).r : Int) = (lstep k s).r + d) (e2 : (lstep k x).l = (lstep k s).l) (e3 : (lstep k x).c = (lstep k s).c) (e4 : hwt ks ≤ (lstep k x).r) => right_tight ks (lstep k x) (lstep k s) m' d e1 e2 e3 e4 h6
    cases k with
    | write w => exact go m h1 (by show x.l + w.length = s.l + w.length; rw [h2]) h3 (by show _ ≤ x.r; omega)
    | paste => exact go m h1 (by show x.l + x.c = s.l + s.c; rw [h2, h3]) h3 (by show _ ≤ x.r; omega)
    | left n => exact go m (by show ((x.r + min n x.l : Nat) : Int) = ((s.r + min n s.l : Nat) : Int) + d; rw [h2]; omega) (by show x.l - n = s.l - n; rw [h2]) h3 (by show _ ≤ x.r + min n x.l; omega)
    | rub n => exact go m h1 (by show x.l - n = s.l - n; rw [h2]) h3 (by show _ ≤ x.r; omega)
    | right n =>
      have h4 : n + hwt ks ≤ x.r := h4
      have hn : n ≤ s.r := h5 n rfl
      have := go (min m ((x.r : Nat) - (n : Int))) (by show ((x.r - n : Nat) : Int) = ((s.r - n : Nat) : Int) + d; omega) (by show x.l + min n x.r = s.l + min n s.r; omega) h3 (by show _ ≤ x.r - n; omega)
      refine Int.le_trans ?_ this
      omega
    | strike n =>
      have h4 : n + hwt ks ≤ x.r := h4
      have hn : n ≤ s.r := h5 n rfl
      have := go (min m ((x.r : Nat) - (n : Int))) (by show ((x.r - n : Nat) : Int) = ((s.r - n : Nat) : Int) + d; omega) h2 h3 (by show _ ≤ x.r - n; omega)
      refine Int.le_trans ?_ this
      omega
    | copy n =>
      have h4 : n + hwt ks ≤ x.r := h4
      have hn : n ≤ s.r := h5 n rfl
      have := go (min m ((x.r : Nat) - (n : Int))) h1 h2 (by show min n x.r = min n s.r; omega) (by show _ ≤ x.r; omega)
      refine Int.le_trans ?_ this
      omega
    | cut n =>
      have h4 : n + hwt ks ≤ x.r := h4
      have hn : n ≤ s.r := h5 n rfl
      have := go (min m ((x.r : Nat) - (n : Int))) (by show ((x.r - n : Nat) : Int) = ((s.r - n : Nat) : Int) + d; omega) h2 (by show min n x.r = min n s.r; omega) (by show _ ≤ x.r - n; omega)
      refine Int.le_trans ?_ this
      omega
theorem lfold_ge0 (b : Bool) : ∀ (ks : List Ky) (x : Ln) (m : Int), 0 ≤ m → hwt ks ≤ lside b x → 0 ≤ (lfold b ks (x, m)).2
  | [], x, m, h, _ => h
  | k :: ks, x, m, h, h4 => by
    rw [hwt_cons] at h4
    have hs : hwt ks ≤ lside b (lstep k x) := by
      cases b <;> cases k <;> simp only [lside, lstep, Ky.wt] at h4 ⊢ <;> simp at h4 ⊢ <;> omega
    have hm : 0 ≤ (lrs b (x, m) k).2 := by
      unfold lrs
      cases hn : need b k with
      | none => exact h
      | some n =>
        have : n ≤ k.wt := by cases b <;> cases k <;> simp [need, Ky.wt] at hn ⊢ <;> omega
        show 0 ≤ min m (((lside b x : Nat) : Int) - (n : Int))
        omega
    exact lfold_ge0 b ks (lstep k x) (lrs b (x, m) k).2 hm hs
/-- the reach of a hand on a side -/
def rch (b : Bool) (ks : List Ky) : Int := 60 - (rfold b ks).2
theorem rch_0 (b : Bool) {ks : List Ky} (h : hwt ks ≤ 60) : 0 ≤ rch b ks ∧ rch b ks ≤ 60 := by
  unfold rch
  rw [rfold_lfold]
  have h1 := lfold_le b ks (x0 b, 60)
  have h2 := lfold_ge0 b ks (x0 b) 60 (by decide) (by cases b <;> exact h)
  have h1 : (lfold b ks (x0 b, 60)).2 ≤ 60 := h1
  omega
theorem rch_fits (b : Bool) {ks : List Ky} (h : hwt ks ≤ 60) {s : Ln} (hs : rch b ks ≤ (lside b s : Nat)) : fits b ks s := by
  unfold rch at hs
  rw [rfold_lfold] at hs
  cases b with
  | true => exact left_fits ks (x0 true) 60 s (60 - (lfold true ks (x0 true, 60)).2) (by show ((60 : Nat) : Int) + _ ≤ (s.l : Int) + 60; have hs : 60 - _ ≤ ((s.l : Nat) : Int) := hs; omega) (Nat.zero_le _) (Nat.zero_le _) h (by omega)
  | false => exact right_fits ks (x0 false) 60 s (60 - (lfold false ks (x0 false, 60)).2) (by show ((60 : Nat) : Int) + _ ≤ (s.r : Int) + 60; have hs : 60 - _ ≤ ((s.r : Nat) : Int) := hs; omega) (Nat.zero_le _) (Nat.zero_le _) h (by omega)
theorem rch_tight (b : Bool) {ks : List Ky} (h : hwt ks ≤ 60) {n : Nat} (hn : ((n : Nat) : Int) = rch b ks - 1) : ¬ fits b ks (if b then ⟨n, 0, 0⟩ else ⟨0, n, 0⟩) := by
  have hb := rch_0 b h
  unfold rch at hn hb
  rw [rfold_lfold] at hn hb
  intro hf
  cases b with
  | true =>
    have := left_tight ks (x0 true) ⟨n, 0, 0⟩ 60 (60 - (n : Int)) (by show ((60 : Nat) : Int) = (n : Int) + _; omega) rfl rfl h hf
    omega
  | false =>
    have := right_tight ks (x0 false) ⟨0, n, 0⟩ 60 (60 - (n : Int)) (by show ((60 : Nat) : Int) = (n : Int) + _; omega) rfl rfl h hf
    omega
/-- whether a key is cut short on a side, going the keys -/
def hitB (b : Bool) (k : Ky) (s : Ln) : Bool := match need b k with
  | some n => decide (lside b s < n)
  | none => false
def cutB (b : Bool) : List Ky → Ln → Bool
  | [], _ => false
  | k :: ks, s => hitB b k s || cutB b ks (lstep k s)
theorem cutB_fits (b : Bool) : ∀ (ks : List Ky) (s : Ln), cutB b ks s = false ↔ fits b ks s
  | [], _ => by simp [cutB, fits]
  | k :: ks, s => by
    unfold cutB fits fitK hitB
    rw [Bool.or_eq_false_iff, cutB_fits b ks]
    cases need b k with
    | none => simp
    | some n => simp

/-! ## parting, over cells -/
theorem fn_adaptR {CX : CXT} {k : Nat} {f : Addr} {fd : FuncData} {ps : List Str} {sp : Sp} {pre : List Dt → Dt → Prop} (hF : FnOk P w K mg base CX k f fd ps sp) (hl : ∀ ds r, pre ds r → leaf r = true)
    (h : ∀ ds r vs H Q E, pre ds r → Ats K H vs ds → (∀ H' v, Same H H' → At K H' v r → Q v H') → sp vs H Q E) : FnOk P w K mg base CX k f fd ps (lft K fun ws C Q _ => ∃ ds r, rdss C ws ds ∧ pre ds r ∧ Q (.d r) C) :=
  hF.imp fun vs H Q E x => by
    obtain ⟨ws, C, ad, Qd, Xd, hR, rv, ⟨ds, r, hr, hp, q⟩, kd, kx⟩ := x
    exact h ds r vs H Q E hp (rdss_at hR ds ws vs rv hr) fun H' v e rr => kd _ C v H' ad q (hR.same e) (grw_same e) (at_any (hl ds r hp) rr)
theorem at_intL {L : Hp} {i : Int} : At K L (.int i) (.int i) := by unfold At; rfl

/-! ## far from all ends -/
theorem iteB {c : Bool} {A B : Prop} (h1 : c = true → A) (h2 : c = false → B) : if c = true then A else B := by
  cases c with
  | true => exact h1 rfl
  | false => exact h2 rfl
/-- over n things of a row that stays, each told by f or left out -/
theorem DLc.overF {J : ItD} {g : TDG} {t : TDT} {e : TD} {ρ0 : Ws} {C : Cs} {Q : W → Cs → Prop} (n : Nat) (it : Nat → W) (f : Nat → Option Dt) (hn : n ≤ 16777216) (hJ : ∀ i acc, J i (C ++ [.lst acc]) (if i < n then some (it i) else none))
    (hs : ∀ i acc (R : W → Cs → Prop) (S : Cs → Prop), i < n → (match f i with | some x => R (.d x) (C ++ [.lst acc]) | none => S (C ++ [.lst acc])) → g (it i) ρ0 (C ++ [.lst acc]) fun ρ2 C2 => t ρ2 C2 fun b C3 => if b = true then e ρ2 C3 R else S C3) (q : Q (.d (.lst ((List.range n).filterMap f))) C) :
    DLc J g t e ρ0 C C.length (fun w C' => Fin C w C' Q) := by
  have last : ∀ (c : Cell), (C ++ [c])[C.length]? = some c := fun c => List.getElem?_concat_length
  have put : ∀ (c x : Cell), (C ++ [c]).set C.length x = C ++ [x] := fun c x => by rw [List.set_append_right _ _ (Nat.le_refl _), Nat.sub_self]; rfl
  refine ⟨fun i m C' => m = n - i ∧ i ≤ n ∧ C' = C ++ [.lst (((List.range i).filterMap f).map W.d)], ⟨n, rfl, Nat.zero_le _, rfl⟩, ?_⟩
  rintro i m C' ⟨rfl, hi, rfl⟩
  have hj := hJ i (((List.range i).filterMap f).map W.d)
  by_cases lt : i < n
  · rw [if_pos lt] at hj
    have next : List.range (i + 1) = List.range i ++ [i] := List.range_succ
    refine .inr ⟨it i, hj, fun C' => C' = C ++ [.lst (((List.range (i + 1)).filterMap f).map W.d)], fun C' e => ⟨n - (i + 1), by omega, rfl, lt, e⟩, hs i _ _ _ lt ?_⟩
    cases e : f i with
    | some x =>
      refine ⟨_, last _, ?_, ?_⟩
      · rw [List.length_map]
        have := List.length_filterMap_le f (List.range i)
        rw [List.length_range] at this
        omega
      · rw [put, next, List.filterMap_append, List.map_append]
        simp only [List.filterMap_cons, e, List.filterMap_nil, List.map_cons, List.map_nil]
    | none =>
      show _ = C ++ [Cell.lst (((List.range (i + 1)).filterMap f).map W.d)]
      rw [next, List.filterMap_append]
      simp only [List.filterMap_cons, e, List.filterMap_nil, List.append_nil]
  · rw [if_neg lt] at hj
    have en : i = n := by omega
    subst en
    exact .inl ⟨hj, .inr (.inr ⟨_, _, _, C, _, rfl, last _, allD_map _, Nat.le_refl _, rfl, .refl C, .inl q⟩)⟩
theorem HandW.it {C : Cs} {w : W} {d : Dt} (hw : HandW C w d) (hr : isRow d = true) : ∃ J, rowIt C w = some J ∧ (∀ i acc, J i (C ++ [.lst acc]) (if i < d.items.length then some (.d (d.items.getD i .non)) else none)) := by
  rcases hw with rfl | ⟨k, ds, rfl, rfl, hc⟩
  · rw [rowIt_row hr]
    exact ⟨_, rfl, fun i acc => itList_if i _⟩
  · rw [rowIt_3, hc]
    refine ⟨_, rfl, fun i acc => ⟨ds.map W.d, ?_, itList_if (ds := ds) i C⟩⟩
    rw [List.getElem?_append_left (lt_at hc)]
    exact hc
def heldF (c : Nat) (k : Ky) : Nat := match k with
  | .copy n => n
  | .cut n => n
  | _ => c
def heldK (ks : List Ky) : Nat := ks.foldl heldF 0
def heldD (k : Ky) : Option Dt := match k with
  | .copy n => some (.int (n : Nat))
  | .cut n => some (.int (n : Nat))
  | _ => none
theorem range_filterMap {α β : Type} (f : α → Option β) : ∀ xs : List α, (List.range xs.length).filterMap (fun i => (xs[i]?).bind f) = xs.filterMap f := by
  intro xs
  have h : ∀ n, n ≤ xs.length → (List.range n).filterMap (fun i => (xs[i]?).bind f) = (xs.take n).filterMap f := fun n => by
    induction n with
    | zero => intro _; rfl
    | succ n ih =>
      intro hn
      rw [List.range_succ, List.filterMap_append, ih (by omega), List.take_add_one, List.filterMap_append]
      congr 1
      rw [List.getElem?_eq_getElem (show n < xs.length by omega)]
      show List.filterMap _ [n] = List.filterMap f [xs[n]]
      rw [List.filterMap_cons, List.filterMap_cons, List.getElem?_eq_getElem (show n < xs.length by omega)]
      rfl
  rw [h xs.length (Nat.le_refl _), List.take_length]
theorem held_both : ∀ (ks : List Ky) (c : Nat), (∀ h : (ks.filterMap heldD) ≠ [], (ks.filterMap heldD).getLast h = .int (ks.foldl heldF c : Nat)) ∧ (ks.filterMap heldD = [] → ks.foldl heldF c = c)
  | [], c => ⟨fun h => absurd rfl h, fun _ => rfl⟩
  | k :: ks, c => by
    rw [List.foldl_cons]
    obtain ⟨i1, i2⟩ := held_both ks (heldF c k)
    cases hk : heldD k with
    | none =>
      have hf : heldF c k = c := by cases k <;> first | rfl | cases hk
      have e : (k :: ks).filterMap heldD = ks.filterMap heldD := by rw [List.filterMap_cons, hk]
      rw [hf] at i1 i2 ⊢
      exact ⟨fun h => by simp only [e]; exact i1 (by rw [← e]; exact h), fun h => i2 (by rw [← e]; exact h)⟩
    | some x =>
      have hx : x = .int (heldF c k : Nat) := by cases k <;> first | (cases hk; rfl) | cases hk
      have e : (k :: ks).filterMap heldD = x :: ks.filterMap heldD := by rw [List.filterMap_cons, hk]
      refine ⟨fun h => ?_, fun h => by rw [e] at h; cases h⟩
      simp only [e]
      by_cases hn : ks.filterMap heldD = []
      · rw [i2 hn, ← hx]
        simp only [hn]
        rfl
      · rw [List.getLast_cons hn]
        exact i1 hn
theorem atI_last {α : Type} {xs : List α} (h : xs ≠ []) : atI xs (-1) = some (xs.getLast h) := by
  have e : xs = xs.dropLast ++ [xs.getLast h] := (List.dropLast_concat_getLast h).symm
  have hl := List.length_pos_iff.mpr h
  unfold atI ixN
  rw [if_neg (by decide), if_pos (by omega)]
  show xs[_]? = _
  rw [show ((-1 : Int) + (xs.length : Int)).toNat = xs.length - 1 by omega, List.getElem?_eq_getElem (by omega), List.getLast_eq_getElem]
theorem held_last {ks : List Ky} (h : (ks.filterMap heldD).isEmpty = false) : atI (ks.filterMap heldD) (-1) = some (.int (heldK ks : Nat)) := by
  have hn : ks.filterMap heldD ≠ [] := fun e => by rw [e] at h; cases h
  rw [atI_last hn, (held_both ks 0).1 hn]
  rfl
theorem held_none {ks : List Ky} (h : (ks.filterMap heldD).isEmpty = true) : heldK ks = 0 := (held_both ks 0).2 (List.isEmpty_iff.mp h)
def spFarHeld : SpD := fun ws C Q _ => ∃ (w : W) (d : Dt) (ks : List Ky), ws = [w] ∧ HandW C w d ∧ norm d = norm (dH ks) ∧ GoodH ks ∧ Q (.d (.int (heldK ks : Nat))) C
theorem ok_far_held (T : Txt K mg w) : FnOk P w K mg base CX0 1 T.f_far_held.f T.f_far_held.fd ["hand"] (lft K spFarHeld) := by
  refine okD T.f_far_held.F sc_far_held (fun ws C Q X h => ?_) (fun cv A out s H E hr => ⟨_, (pss_cons (ps_lcK [2] (ps_setLc (i := 1) (own := [("key", 2)]) rfl sc_far_held.nd rfl rfl (sw_true rfl rfl rfl (by decide +kernel)) (pi_row K (pv 0)) (blkOk_by (own := [("key", 2)]) (N := N_far_held) (sc := defScope s_far_held) (by decide +kernel)) (fun _ _ _ _ _ => (pg_name (i := 2) sc_far_held.nd rfl (.inl rfl))) (fun _ _ _ _ _ => (pts_one (pt_cmpR (q_in K) (pe_ix (ix_seqK K) (pv 2) pe_int (fun _ _ => rfl)) (pe_tup (pa_cons pe_strL (pa_cons pe_strL pa_nil))) (by rfl)))) (fun _ _ _ _ _ => (pe_ix (ix_seqK K) (pv 2) pe_int (fun _ _ => rfl)))))
      (pss_one (ps_ret (pe_ifExp (pt_truthK K (pv 1) (by intro _; rfl)) (pe_ix (ix_seqK K) (pv 1) (pe_un un_neg pe_int) (fun _ _ => rfl)) pe_int)))), _, inferInstance, fun ws C Q X h => ?_⟩)
  · obtain ⟨w, d, ks, rfl, _⟩ := h
    rfl
  obtain ⟨w, d, ks, rfl, hw, hd, gk, q⟩ := h
  have hr1 : isRow d = true := by rw [← row_norm, hd, row_norm]; rfl
  have hm : d.items.map norm = ks.map fun k => norm (.tup (kD k)) := by
    rw [← items_norm, hd, items_norm]
    show ((ks.map kyT).map norm) = _
    rw [List.map_map]
    rfl
  have hl : d.items.length = ks.length := by have := congrArg List.length hm; simpa using this
  have hki : ∀ i k, ks[i]? = some k → isRow (d.items.getD i .non) = true ∧ (d.items.getD i .non).items = kD k := fun i k hk => by
    have e : (d.items.map norm)[i]? = (ks.map fun k => norm (.tup (kD k)))[i]? := by rw [hm]
    rw [List.getElem?_map, List.getElem?_map, hk] at e
    obtain ⟨x, hx, e⟩ := Option.map_eq_some_iff.mp e
    rw [List.getD_eq_getElem?_getD, hx]
    exact key_items e
  have fw := gk.few
  obtain ⟨J, hJ, hit⟩ := hw.it hr1
  walk_at "dw"
  rw [hJ]
  dsimp only
  refine DLc.overF d.items.length (fun i => .d (d.items.getD i .non)) (fun i => (ks[i]?).bind heldD) (by omega) hit ?_ ?_
  · intro i acc R S hi hR
    have hi2 : i < ks.length := by omega
    have hk : ks[i]? = some ks[i] := List.getElem?_eq_getElem hi2
    obtain ⟨r1, r2⟩ := hki i _ hk
    rw [hk] at hR
    generalize ks[i] = k at hk r2 hR
    generalize d.items.getD i .non = x at r1 r2
    walk_at "dw"
    cases k with
    | write u =>
      rw [ixW_row (x := .str (cd "write")) r1 (by rw [r2]; rfl)]
      show (if inV (.str (tx (cd "write"))) [.str (tx (cd "copy")), .str (tx (cd "cut"))] = true then _ else _)
      rw [show inV (.str (tx (cd "write"))) [.str (tx (cd "copy")), .str (tx (cd "cut"))] = false by decide +kernel]
      exact hR
    | paste =>
      rw [ixW_row (x := .str (cd "paste")) r1 (by rw [r2]; rfl)]
      show (if inV (.str (tx (cd "paste"))) [.str (tx (cd "copy")), .str (tx (cd "cut"))] = true then _ else _)
      rw [show inV (.str (tx (cd "paste"))) [.str (tx (cd "copy")), .str (tx (cd "cut"))] = false by decide +kernel]
      exact hR
    | left n =>
      rw [ixW_row (x := .str (cd "left")) r1 (by rw [r2]; rfl)]
      show (if inV (.str (tx (cd "left"))) [.str (tx (cd "copy")), .str (tx (cd "cut"))] = true then _ else _)
      rw [show inV (.str (tx (cd "left"))) [.str (tx (cd "copy")), .str (tx (cd "cut"))] = false by decide +kernel]
      exact hR
    | right n =>
      rw [ixW_row (x := .str (cd "right")) r1 (by rw [r2]; rfl)]
      show (if inV (.str (tx (cd "right"))) [.str (tx (cd "copy")), .str (tx (cd "cut"))] = true then _ else _)
      rw [show inV (.str (tx (cd "right"))) [.str (tx (cd "copy")), .str (tx (cd "cut"))] = false by decide +kernel]
      exact hR
    | rub n =>
      rw [ixW_row (x := .str (cd "rub")) r1 (by rw [r2]; rfl)]
      show (if inV (.str (tx (cd "rub"))) [.str (tx (cd "copy")), .str (tx (cd "cut"))] = true then _ else _)
      rw [show inV (.str (tx (cd "rub"))) [.str (tx (cd "copy")), .str (tx (cd "cut"))] = false by decide +kernel]
      exact hR
    | strike n =>
      rw [ixW_row (x := .str (cd "strike")) r1 (by rw [r2]; rfl)]
      show (if inV (.str (tx (cd "strike"))) [.str (tx (cd "copy")), .str (tx (cd "cut"))] = true then _ else _)
      rw [show inV (.str (tx (cd "strike"))) [.str (tx (cd "copy")), .str (tx (cd "cut"))] = false by decide +kernel]
      exact hR
    | copy n =>
      rw [ixW_row (x := .str (cd "copy")) r1 (by rw [r2]; rfl)]
      show (if inV (.str (tx (cd "copy"))) [.str (tx (cd "copy")), .str (tx (cd "cut"))] = true then _ else _)
      rw [show inV (.str (tx (cd "copy"))) [.str (tx (cd "copy")), .str (tx (cd "cut"))] = true by decide +kernel]
      rw [ixW_row (x := .int (n : Nat)) r1 (by rw [r2]; rfl)]
      exact hR
    | cut n =>
      rw [ixW_row (x := .str (cd "cut")) r1 (by rw [r2]; rfl)]
      show (if inV (.str (tx (cd "cut"))) [.str (tx (cd "copy")), .str (tx (cd "cut"))] = true then _ else _)
      rw [show inV (.str (tx (cd "cut"))) [.str (tx (cd "copy")), .str (tx (cd "cut"))] = true by decide +kernel]
      rw [ixW_row (x := .int (n : Nat)) r1 (by rw [r2]; rfl)]
      exact hR
  · have ef : (List.range d.items.length).filterMap (fun i => (ks[i]?).bind heldD) = ks.filterMap heldD := by
      rw [hl]
      exact range_filterMap heldD ks
    rw [ef]
    walk_at "dw"
    refine iteB (fun e => ?_) (fun e => ?_)
    · rw [held_last (by cases h : (ks.filterMap heldD).isEmpty with
        | true => rw [h] at e; cases e
        | false => rfl)]
      exact ret.same q
    · have h0 : heldK ks = 0 := held_none (by cases h : (ks.filterMap heldD).isEmpty with
        | true => rfl
        | false => rw [h] at e; cases e)
      rw [h0] at q
      exact ret.same q

/-! ## the near lengths -/
def nrI (b : Bool) (ks : List Ky) : Int := 60 - (lfold b ks (⟨60, 60, heldK ks⟩, 60)).2
theorem nr_bd (b : Bool) {ks : List Ky} (gk : GoodH ks) : 0 ≤ nrI b ks ∧ nrI b ks ≤ 60 := by
  unfold nrI
  have h1 := lfold_le b ks (⟨60, 60, heldK ks⟩, 60)
  have h2 := lfold_ge0 b ks ⟨60, 60, heldK ks⟩ 60 (by decide) (by cases b <;> exact gk.2)
  have h1 : (lfold b ks (⟨60, 60, heldK ks⟩, 60)).2 ≤ 60 := h1
  omega
def nr (b : Bool) (ks : List Ky) : Nat := (nrI b ks).toNat
theorem nr_int (b : Bool) {ks : List Ky} (gk : GoodH ks) : nrI b ks = (nr b ks : Nat) := by
  have := (nr_bd b gk).1
  unfold nr
  omega
theorem nr_le (b : Bool) {ks : List Ky} (gk : GoodH ks) : nr b ks ≤ 60 := by
  have := (nr_bd b gk).2
  unfold nr
  omega
theorem held_le {ks : List Ky} (gk : GoodH ks) : heldK ks ≤ 60 := by
  have h : ∀ (ks : List Ky) (c : Nat), c ≤ 60 → hwt ks ≤ 60 → ks.foldl heldF c ≤ 60 := fun ks => by
    induction ks with
    | nil => intro c h _; exact h
    | cons k ks ih =>
      intro c h hw
      have hk : k.wt ≤ 60 := Nat.le_trans (hwt_mem (List.mem_cons_self ..)) hw
      refine ih _ ?_ (Nat.le_trans (Nat.le_add_left _ _) hw)
      cases k <;> first | exact h | exact hk
  exact h ks 0 (Nat.zero_le _) gk.2
def nearT (ks : List Ky) : Dt := .tup [.int (nr true ks : Nat), .int (nr false ks : Nat), .int (heldK ks : Nat)]
def enough (h : Nat) : Dt := .tup [.int 60, .int 60, .int (h : Nat)]
theorem okD_needed (T : Txt K mg w) : FnOk P w K mg base CX0 2 T.f_needed.f T.f_needed.fd ["hand", "side", "lengths"] (lft K fun ws C Q _ => ∃ ds r, rdss C ws ds ∧ (∃ d ks b, ds = [d, .str (cd (sn b)), enough (heldK ks)] ∧ r = .int (nr b ks : Nat) ∧ isHandOf d ks) ∧ Q (.d r) C) :=
  fn_adaptR (ok_needed T) (fun _ _ h => by obtain ⟨_, _, _, _, rfl, _⟩ := h; rfl) fun ds r vs H Q E hp ha q => by
    obtain ⟨d, ks, b, rfl, rfl, hn, gk⟩ := hp
    obtain ⟨v, u, t, rfl, h1, h2, h3⟩ := ats3 ha
    unfold At at h2
    obtain ⟨rfl, _⟩ := h2
    rw [show tx (cd (sn b)) = sn b from tx_of _]
    have hl : LnAt K H t ⟨60, 60, heldK ks⟩ := by
      obtain ⟨a, xs, rfl, hrow, hit⟩ := at_row h3 rfl
      refine ⟨a, rfl, ?_⟩
      have : xs = lnV ⟨60, 60, heldK ks⟩ := by
        obtain ⟨v1, v2, v3, rfl, a1, a2, a3⟩ := ats3 hit
        unfold At at a1 a2 a3
        rw [a1, a2, a3]
        rfl
      rw [← this]
      exact hrow
    refine ⟨v, t, b, ks, _, rfl, handAt_of h1 hn, gk, hl, fun H' e => ?_⟩
    have := nr_int b gk
    unfold nrI at this
    rw [this]
    exact q H' _ e at_intL

/-! ## the class -/
/-- a Far at i: its near lengths, and a table of three lists of its own -/
structure FarAt (c : Addr) (C : Cs) (i : Nat) (ks : List Ky) : Prop where
  ob : ∃ t l r h, C[i]? = some (.ins c [("near", .d (nearT ks)), ("rows", .o t)]) ∧ TabO 0 C t l r h (tabD ks (nr true ks) (nr false ks) (heldK ks))
def spFarInit (c : Addr) : SpD := fun ws C Q _ => ∃ (i : Nat) (w : W) (d : Dt) (ks : List Ky), ws = [.o i, w] ∧ C[i]? = some (.ins c []) ∧ HandW C w d ∧ isHandOf d ks ∧ ∀ C', (∀ j x, j ≠ i → C[j]? = some x → C'[j]? = some x) → FarAt c C' i ks → Q (.d .non) C'
theorem ok_Far___init__ (T : Txt K mg w) : FnOk P w K mg base CX0 5 T.f_Far___init__.f T.f_Far___init__.fd ["self", "hand"] (lft K (spFarInit T.k_Far.C)) := by
  refine okD T.f_Far___init__.F sc_Far___init__ (fun ws C Q X h => ?_) (fun cv A out s H E hr => ⟨_, (pss_cons (ps_set (i := 2) sc_Far___init__.nd rfl (.inl rfl) (pe_call (ok_far_held T) (hr.mono (by first | decide | omega)) (by rfl) T.f_far_held.g T.f_far_held.F.kp T.f_far_held.b .nil pass0 (pa_cons (pv 1) pa_nil)))
      (pss_cons (ps_set (i := 3) sc_Far___init__.nd rfl (.inl rfl) (pe_tup (pa_cons (pe_c_HEAVIEST T) (pa_cons (pe_c_HEAVIEST T) (pa_cons (pv 2) pa_nil)))))
      (pss_cons (ps_fldC T.k_Far.cl T.n_Far_near (pv 0) (pe_tup (pa_cons (pe_call (okD_needed T) (hr.mono (by first | decide | omega)) (by rfl) T.f_needed.g T.f_needed.F.kp T.f_needed.b .nil pass0 (pa_cons (pv 1) (pa_cons pe_strL (pa_cons (pv 3) pa_nil)))) (pa_cons (pe_call (okD_needed T) (hr.mono (by first | decide | omega)) (by rfl) T.f_needed.g T.f_needed.F.kp T.f_needed.b .nil pass0 (pa_cons (pv 1) (pa_cons pe_strL (pa_cons (pv 3) pa_nil)))) (pa_cons (pv 2) pa_nil)))))
      (pss_one (ps_fldC T.k_Far.cl T.n_Far_rows (pv 0) (pe_call (ok_trace T) (hr.mono (by first | decide | omega)) (by rfl) T.f_trace.g T.f_trace.F.kp T.f_trace.b .nil pass0 (pa_cons (pe_call (ok_sourced T) (hr.mono (by first | decide | omega)) (by rfl) T.f_sourced.g T.f_sourced.F.kp T.f_sourced.b .nil pass0 (pa_cons (pv 1) pa_nil)) (pa_cons (pe_fldC T.k_Far.cl T.n_Far_near (pv 0)) pa_nil)))))))), _, inferInstance, fun ws C Q X h => ?_⟩)
  · obtain ⟨i, w, d, ks, rfl, _⟩ := h
    rfl
  obtain ⟨i, w, d, ks, rfl, hi, hw, ⟨hd, gk⟩, q⟩ := h
  walk_at "dw"
  refine ⟨w, d, ks, rfl, hw, hd, gk, ?_⟩
  walk_at "dw"
  refine ⟨[d, .str (cd (sn true)), enough (heldK ks)], _, ?_, ⟨d, ks, true, rfl, rfl, hd, gk⟩, ?_⟩
  · exact ⟨_, _, rfl, hw.rds, _, _, rfl, rds_d, _, _, rfl, rds_d, rfl⟩
  refine ⟨[d, .str (cd (sn false)), enough (heldK ks)], _, ?_, ⟨d, ks, false, rfl, rfl, hd, gk⟩, ?_⟩
  · exact ⟨_, _, rfl, hw.rds, _, _, rfl, rds_d, _, _, rfl, rds_d, rfl⟩
  walk_at "dw"
  rw [hi]
  walk_at "dw"
  have fw := gk.few
  have hli := lt_at hi
  have hli := lt_at hi
  have hst : ∀ x, (C.set i x)[i]? = some x := fun x => List.getElem?_set_self hli
  have p1 : putW "near" (W.d (Dt.tup [Dt.int (nr true ks : Nat), Dt.int (nr false ks : Nat), Dt.int (heldK ks : Nat)])) [] = [(("near" : Str), W.d (nearT ks))] := rfl
  have p2 : ∀ y, putW "rows" y [(("near" : Str), W.d (nearT ks))] = [(("near" : Str), W.d (nearT ks)), (("rows" : Str), y)] := fun y => by
    show (if ("near" : Str) = "rows" then _ else (("near" : Str), W.d (nearT ks)) :: putW "rows" y []) = _
    rw [if_neg (by decide +kernel)]
    rfl
  have l1 : List.lookup ("near" : Str) [(("near" : Str), W.d (nearT ks))] = some (.d (nearT ks)) := List.lookup_cons_self
  rw [p1]
  refine ⟨w, d, ks, rfl, ?_, hd, gk, fun es kl => ?_⟩
  · rcases hw with rfl | ⟨k, ds, rfl, rfl, hc⟩
    · exact .inl rfl
    · refine .inr ⟨k, ds, rfl, rfl, ?_⟩
      rw [List.getElem?_set_ne (fun h => by rw [h, hc] at hi; cases hi)]
      exact hc
  dsimp only
  rw [hst]
  dsimp only
  rw [l1]
  dsimp only
  refine ⟨rfl, es, nearT ks, ks, nr true ks, nr false ks, heldK ks, rfl, kl, gk, ⟨rfl, rfl⟩, held_le gk, Nat.le_trans (nr_le true gk) (by decide), Nat.le_trans (nr_le false gk) (by decide), fun t l r h C' ext tab => ?_⟩
  dsimp only
  rw [ext i _ (hst _)]
  dsimp only
  rw [p2]
  refine ⟨rfl, by show 1 < 1000; decide, ret.same (q _ (fun j x hj hx => ?_) ⟨t, l, r, h, ?_, ?_⟩)⟩
  · rw [List.getElem?_set_ne (Ne.symm hj)]
    exact ext j x (by rw [List.getElem?_set_ne (Ne.symm hj)]; exact hx)
  · exact List.getElem?_set_self (lt_at (ext i _ (hst _)))
  · have hn := tab.new
    rw [List.length_set] at hn
    have st : ∀ j, C.length ≤ j → (C'.set i (.ins T.k_Far.C [("near", .d (nearT ks)), ("rows", .o t)]))[j]? = C'[j]? := fun j hj => List.getElem?_set_ne (by omega)
    exact ⟨by rw [st t hn.2.2.2]; exact tab.row, by rw [st l hn.1]; exact tab.l, by rw [st r hn.2.1]; exact tab.r, by rw [st h hn.2.2.1]; exact tab.c, tab.dis, ⟨Nat.zero_le _, Nat.zero_le _, Nat.zero_le _, Nat.zero_le _⟩⟩

/-! ## spots and sources -/
def sideS : Nat → List Nat
  | 0 => cd "left"
  | 1 => cd "right"
  | _ => cd "clip"
def spotD (sd dp : Nat) : Dt := .tup [.str (sideS sd), .int (dp : Nat)]
def typedD (i a : Nat) : Dt := .tup [.str (cd "typed"), .int (i : Nat), .int (a : Nat)]
def rowS (s : Sid) : Nat → List Dt
  | 0 => s.l
  | 1 => s.r
  | _ => s.c
abbrev N3 := Nat × Nat × Nat
def nS (n : N3) : Nat → Nat
  | 0 => n.1
  | 1 => n.2.1
  | _ => n.2.2
def nT (n : N3) : Dt := .tup [.int (n.1 : Nat), .int (n.2.1 : Nat), .int (n.2.2 : Nat)]
def srcAt (s : Sid) (n : N3) (sd dp : Nat) : Dt := match (rowS s sd)[dp]? with
  | some x => x
  | none => spotD sd (dp - (rowS s sd).length + nS n sd)
theorem side_at {sd : Nat} (hsd : sd < 3) : List.lookup (tx (sideS sd)) [(Str.ofString "left", (0 : Int)), (Str.ofString "right", 1), (Str.ofString "clip", 2)] = some (sd : Int) := by
  match sd, hsd with
  | 0, _ => decide +kernel
  | 1, _ => decide +kernel
  | 2, _ => decide +kernel
theorem ixW_n {C : Cs} {n : N3} {sd : Nat} (hsd : sd < 3) : ixW C (.d (nT n)) (.d (.int (sd : Int))) = some (.d (.int (nS n sd : Nat))) := by
  match sd, hsd with
  | 0, _ => exact ixW_row (d := nT n) rfl rfl
  | 1, _ => exact ixW_row (d := nT n) rfl rfl
  | 2, _ => exact ixW_row (d := nT n) rfl rfl
def spSrcIn : SpD := fun ws C Q _ => ∃ (t l r h : Nat) (s : Sid) (n : N3) (sd dp : Nat), ws = [.o t, .d (nT n), .d (spotD sd dp)] ∧ TabO 0 C t l r h s ∧ sd < 3 ∧ Q (.d (srcAt s n sd dp)) C
theorem ok_source_in (T : Txt K mg w) : FnOk P w K mg base CX0 1 T.f_source_in.f T.f_source_in.fd ["rows", "near", "spot"] (lft K spSrcIn) := by
  refine okD T.f_source_in.F sc_source_in (fun ws C Q X h => ?_) (fun cv A out s H E hr => ⟨_, (pss_cons (ps_asg (pv 2) (pg_seqK (n := 2) K rfl (pgs_cons (pg_name (i := 3) sc_source_in.nd rfl (.inl rfl)) (pgs_cons (pg_name (i := 4) sc_source_in.nd rfl (.inl rfl)) pgs_nil))))
      (pss_cons (ps_set (i := 5) sc_source_in.nd rfl (.inl rfl) (pe_ix (q_ixID T.c_NUMBERS) (pe_id T.c_NUMBERS (by rfl) (by decide)) (pv 3) (fun _ _ => rfl)))
      (pss_cons (ps_set (i := 6) sc_source_in.nd rfl (.inl rfl) (pe_ix (ix_seqK K) (pv 0) (pv 5) (fun _ _ => rfl)))
      (pss_cons (ps_if (pt_cmpR op_lt (pv 4) (pe_callB (call_lenK K) (by rfl) T.b_len (by decide +kernel) (pa_cons (pv 6) pa_nil)) (nomark _)) (pss_one (ps_ret (pe_ix (ix_seqK K) (pv 6) (pv 4) (fun _ _ => rfl)))) pss_nil)
      (pss_one (ps_ret (pe_tup (pa_cons (pv 3) (pa_cons (pe_op (q_addA K) (pe_op op_sub (pv 4) (pe_callB (call_lenK K) (by rfl) T.b_len (by decide +kernel) (pa_cons (pv 6) pa_nil))) (pe_ix (ix_seqK K) (pv 1) (pv 5) (fun _ _ => rfl))) pa_nil))))))))), _, inferInstance, fun ws C Q X h => ?_⟩)
  · obtain ⟨t, l, r, h, s, n, sd, dp, rfl, _⟩ := h
    rfl
  obtain ⟨t, l, r, h, s, n, sd, dp, rfl, tab, hsd, q⟩ := h
  walk_at "dw"
  have side : List.lookup (tx (sideS sd)) [(Str.ofString "left", (0 : Int)), (Str.ofString "right", 1), (Str.ofString "clip", 2)] = some (sd : Int) := by
    match sd, hsd with
    | 0, _ => decide +kernel
    | 1, _ => decide +kernel
    | 2, _ => decide +kernel
  obtain ⟨k, hk1, hk2⟩ : ∃ k, atI [W.o l, W.o r, W.o h] (sd : Int) = some (.o k) ∧ C[k]? = some (.lst ((rowS s sd).map W.d)) := by
    match sd, hsd with
    | 0, _ => exact ⟨l, rfl, tab.l⟩
    | 1, _ => exact ⟨r, rfl, tab.r⟩
    | 2, _ => exact ⟨h, rfl, tab.c⟩
  have hn : ixW C (.d (nT n)) (.d (.int (sd : Int))) = some (.d (.int (nS n sd : Nat))) := by
    match sd, hsd with
    | 0, _ => exact ixW_row (d := nT n) rfl rfl
    | 1, _ => exact ixW_row (d := nT n) rfl rfl
    | 2, _ => exact ixW_row (d := nT n) rfl rfl
  rw [show rowW C (.d (spotD sd dp)) = some [.d (.str (sideS sd)), .d (.int (dp : Nat))] from rfl]
  refine ⟨rfl, rfl, ?_⟩
  walk_at "dw"
  rw [side]
  dsimp only
  rw [tab.row]
  dsimp only
  rw [hk1]
  walk_at "dw"
  rw [hk2]
  walk_at "dw"
  unfold srcAt at q
  refine iteB (fun e => ?_) (fun e => ?_)
  · have hd := of_decide_eq_true e
    have hd2 : dp < (rowS s sd).length := by omega
    have hx : (rowS s sd)[dp]? = some (rowS s sd)[dp] := List.getElem?_eq_getElem hd2
    rw [hx] at q
    rw [at_ofA (j := dp) rfl (by rw [List.getElem?_map, hx]; rfl)]
    walk_at "dw"
    exact ret.same q
  · have hd := of_decide_eq_false e
    have hd2 : (rowS s sd).length ≤ dp := by omega
    rw [List.getElem?_eq_none_iff.mpr hd2] at q
    rw [hn]
    walk_at "dw"
    have e2 : (dp : Int) - ((rowS s sd).length : Int) + (nS n sd : Int) = ((dp - (rowS s sd).length + nS n sd : Nat) : Int) := by omega
    rw [e2]
    exact ret.same q

def FarP (c : Addr) (C : Cs) (i : Nat) (s : Sid) (n : N3) : Prop := ∃ t l r h, C[i]? = some (.ins c [("near", .d (nT n)), ("rows", .o t)]) ∧ TabO 0 C t l r h s
theorem FarP.of {c : Addr} {C : Cs} {i : Nat} {ks : List Ky} (h : FarAt c C i ks) : FarP c C i (tabD ks (nr true ks) (nr false ks) (heldK ks)) (nr true ks, nr false ks, heldK ks) := h.ob
theorem fld_near {x y : W} : List.lookup ("near" : Str) [(("near" : Str), x), (("rows" : Str), y)] = some x := List.lookup_cons_self
theorem fld_rows {x y : W} : List.lookup ("rows" : Str) [(("near" : Str), x), (("rows" : Str), y)] = some y := by
  rw [List.lookup_cons, show (("rows" : Str) == "near") = false by decide +kernel]
  exact List.lookup_cons_self
theorem no_fld {x y : W} {m : Str} (h1 : (m == ("near" : Str)) = false) (h2 : (m == ("rows" : Str)) = false) : List.lookup m [(("near" : Str), x), (("rows" : Str), y)] = none := by
  rw [List.lookup_cons, h1, List.lookup_cons, h2]
  rfl
def spSource (c : Addr) : SpD := fun ws C Q _ => ∃ (i sd dp : Nat) (s : Sid) (n : N3), ws = [.o i, .d (spotD sd dp)] ∧ FarP c C i s n ∧ sd < 3 ∧ Q (.d (srcAt s n sd dp)) C
theorem ok_Far_source (T : Txt K mg w) : FnOk P w K mg base CX0 2 T.f_Far_source.f T.f_Far_source.fd ["self", "spot"] (lft K (spSource T.k_Far.C)) := by
  refine okD T.f_Far_source.F sc_Far_source (fun ws C Q X h => ?_) (fun cv A out s H E hr => ⟨_, (pss_one (ps_ret (pe_call (ok_source_in T) (hr.mono (by first | decide | omega)) (by rfl) T.f_source_in.g T.f_source_in.F.kp T.f_source_in.b .nil pass0 (pa_cons (pe_fldC T.k_Far.cl T.n_Far_rows (pv 0)) (pa_cons (pe_fldC T.k_Far.cl T.n_Far_near (pv 0)) (pa_cons (pv 1) pa_nil)))))), _, inferInstance, fun ws C Q X h => ?_⟩)
  · obtain ⟨i, sd, dp, s, n, rfl, _⟩ := h
    rfl
  obtain ⟨i, sd, dp, s, n, rfl, ⟨t, l, r, h, hi, tab⟩, hsd, q⟩ := h
  walk_at "dw"
  rw [hi]
  dsimp only
  rw [fld_rows]
  dsimp only
  refine ⟨rfl, ?_⟩
  rw [fld_near]
  dsimp only
  exact ⟨rfl, t, l, r, h, s, n, sd, dp, rfl, tab, hsd, ret.same q⟩
/-- whether a source is a near spot -/
def isNr (n : N3) (x : Dt) : Bool := match x with
  | .tup [.str z, .int d] => if z = cd "left" then decide (d < (n.1 : Nat)) else if z = cd "right" then decide (d < (n.2.1 : Nat)) else if z = cd "clip" then decide (d < (n.2.2 : Nat)) else false
  | _ => false
def IsSrc (x : Dt) : Prop := (∃ sd dp, sd < 3 ∧ x = spotD sd dp) ∨ ∃ i a, x = typedD i a
theorem near_spot {n : N3} {sd dp : Nat} (h : sd < 3) : isNr n (spotD sd dp) = decide (dp < nS n sd) := by
  match sd, h with
  | 0, _ => show (if cd "left" = cd "left" then decide (((dp : Nat) : Int) < (n.1 : Nat)) else if cd "left" = cd "right" then decide (((dp : Nat) : Int) < (n.2.1 : Nat)) else if cd "left" = cd "clip" then decide (((dp : Nat) : Int) < (n.2.2 : Nat)) else false) = _
            rw [if_pos rfl, decide_eq_decide]
            show ((dp : Nat) : Int) < (n.1 : Nat) ↔ dp < n.1
            omega
  | 1, _ => show (if cd "right" = cd "left" then decide (((dp : Nat) : Int) < (n.1 : Nat)) else if cd "right" = cd "right" then decide (((dp : Nat) : Int) < (n.2.1 : Nat)) else if cd "right" = cd "clip" then decide (((dp : Nat) : Int) < (n.2.2 : Nat)) else false) = _
            rw [if_neg (by decide +kernel), if_pos rfl, decide_eq_decide]
            show ((dp : Nat) : Int) < (n.2.1 : Nat) ↔ dp < n.2.1
            omega
  | 2, _ => show (if cd "clip" = cd "left" then decide (((dp : Nat) : Int) < (n.1 : Nat)) else if cd "clip" = cd "right" then decide (((dp : Nat) : Int) < (n.2.1 : Nat)) else if cd "clip" = cd "clip" then decide (((dp : Nat) : Int) < (n.2.2 : Nat)) else false) = _
            rw [if_neg (by decide +kernel), if_neg (by decide +kernel), if_pos rfl, decide_eq_decide]
            show ((dp : Nat) : Int) < (n.2.2 : Nat) ↔ dp < n.2.2
            omega
theorem near_typed {n : N3} {i a : Nat} : isNr n (typedD i a) = false := rfl
def spNear (c : Addr) : SpD := fun ws C Q _ => ∃ (i : Nat) (x : Dt) (s : Sid) (n : N3), ws = [.o i, .d x] ∧ FarP c C i s n ∧ IsSrc x ∧ Q (.d (.bl (isNr n x))) C
theorem ok_Far_is_near (T : Txt K mg w) : FnOk P w K mg base CX0 1 T.f_Far_is_near.f T.f_Far_is_near.fd ["self", "source"] (lft K (spNear T.k_Far.C)) := by
  refine okD T.f_Far_is_near.F sc_Far_is_near (fun ws C Q X h => ?_) (fun cv A out s H E hr => ⟨_, (pss_one (ps_ret (pe_and (pe_cmpR (q_inID T.c_NUMBERS) (pe_ix (ix_seqK K) (pv 1) pe_int (fun _ _ => rfl)) (pe_id T.c_NUMBERS (by rfl) (by decide)) (by rfl)) (pe_one (pe_cmpR op_lt (pe_ix (ix_seqK K) (pv 1) pe_int (fun _ _ => rfl)) (pe_ix (ix_seqK K) (pe_fldC T.k_Far.cl T.n_Far_near (pv 0)) (pe_ix (q_ixID T.c_NUMBERS) (pe_id T.c_NUMBERS (by rfl) (by decide)) (pe_ix (ix_seqK K) (pv 1) pe_int (fun _ _ => rfl)) (fun _ _ => rfl)) (fun _ _ => rfl)) (nomark _)))))), _, inferInstance, fun ws C Q X h => ?_⟩)
  · obtain ⟨i, x, s, n, rfl, _⟩ := h
    rfl
  obtain ⟨i, x, s, n, rfl, ⟨t, l, r, h, hi, tab⟩, hx, q⟩ := h
  walk_at "dw"
  rcases hx with ⟨sd, dp, hsd, rfl⟩ | ⟨j, a, rfl⟩
  · rw [near_spot hsd] at q
    rw [ixW_row (d := spotD sd dp) (x := .str (sideS sd)) rfl rfl, ixW_row (d := spotD sd dp) (x := .int (dp : Nat)) rfl rfl]
    dsimp only
    have hin : inI [(Str.ofString "left", 0), (Str.ofString "right", 1), (Str.ofString "clip", 2)] (sideS sd) = true := by
      unfold inI
      rw [side_at hsd]
      rfl
    rw [hin]
    refine iteT ?_
    rw [hi]
    dsimp only
    rw [fld_near]
    dsimp only
    refine ⟨rfl, ?_⟩
    rw [side_at hsd]
    dsimp only
    rw [ixW_n hsd]
    dsimp only
    have e : decide ((dp : Int) < (nS n sd : Int)) = decide (dp < nS n sd) := by
      rw [decide_eq_decide]
      omega
    rw [e]
    exact ret.same q
  · rw [ixW_row (d := typedD j a) (x := .str (cd "typed")) rfl rfl]
    dsimp only
    rw [show inI [(Str.ofString "left", 0), (Str.ofString "right", 1), (Str.ofString "clip", 2)] (cd "typed") = false by decide +kernel]
    exact iteF (ret.same q)
def spSpots (c : Addr) : SpD := fun ws C Q _ => ∃ (i : Nat) (s : Sid) (n : N3), ws = [.o i] ∧ FarP c C i s n ∧ n.1 ≤ 100 ∧ n.2.1 ≤ 100 ∧ n.2.2 ≤ 100 ∧ Q (.d (.lst (rowD (cd "left") n.1 ++ rowD (cd "right") n.2.1 ++ rowD (cd "clip") n.2.2))) C
def asSpot (x : Dt) : Option (Nat × Nat) := match x with
  | .tup [.str z, .int d] => if z = cd "left" then some (0, d.toNat) else if z = cd "right" then some (1, d.toNat) else if z = cd "clip" then some (2, d.toNat) else none
  | _ => none
theorem asSpot_spot {sd dp : Nat} (h : sd < 3) : asSpot (spotD sd dp) = some (sd, dp) := by
  match sd, h with
  | 0, _ => rfl
  | 1, _ =>
    show (if cd "right" = cd "left" then some (0, ((dp : Nat) : Int).toNat) else if cd "right" = cd "right" then some (1, ((dp : Nat) : Int).toNat) else if cd "right" = cd "clip" then some (2, ((dp : Nat) : Int).toNat) else none) = _
    rw [if_neg (by decide +kernel), if_pos rfl]
    rfl
  | 2, _ =>
    show (if cd "clip" = cd "left" then some (0, ((dp : Nat) : Int).toNat) else if cd "clip" = cd "right" then some (1, ((dp : Nat) : Int).toNat) else if cd "clip" = cd "clip" then some (2, ((dp : Nat) : Int).toNat) else none) = _
    rw [if_neg (by decide +kernel), if_neg (by decide +kernel), if_pos rfl]
    rfl
theorem asSpot_typed {i a : Nat} : asSpot (typedD i a) = none := rfl
theorem spot_pln {sd dp : Nat} : Pln (spotD sd dp) = true ∧ deep (spotD sd dp) ≤ 64 := by
  have h : Pln (.str (sideS sd)) = true := by
    unfold sideS
    split <;> decide +kernel
  refine ⟨by unfold spotD Pln Plns Plns Plns; rw [h]; unfold Pln; rfl, ?_⟩
  unfold spotD deep deepAll deepAll deepAll deep
  decide
theorem typed_pln {i a : Nat} : Pln (typedD i a) = true ∧ deep (typedD i a) ≤ 64 := by
  have h : Pln (.str (cd "typed")) = true := by decide +kernel
  refine ⟨by unfold typedD Pln Plns Plns Plns Plns; rw [h]; unfold Pln; rfl, ?_⟩
  unfold typedD deep deepAll deepAll deepAll deepAll deep
  decide
theorem src_pln {x : Dt} (h : IsSrc x) : Pln x = true ∧ deep x ≤ 64 := by
  rcases h with ⟨sd, dp, _, rfl⟩ | ⟨i, a, rfl⟩
  · exact spot_pln
  · exact typed_pln
theorem spot_inj {p r : Nat × Nat} (hp : p.1 < 3) (hr : r.1 < 3) : spotD r.1 r.2 = spotD p.1 p.2 ↔ r = p := by
  constructor
  · intro h
    have h1 := asSpot_spot (dp := r.2) hr
    rw [h, asSpot_spot hp] at h1
    exact (Option.some.inj h1).symm
  · intro h
    rw [h]
def SrcRows (s : Sid) : Prop := ∀ sd, sd < 3 → ∀ x ∈ rowS s sd, IsSrc x
theorem srcAt_src {s : Sid} (hs : SrcRows s) {n : N3} {sd dp : Nat} (h : sd < 3) : IsSrc (srcAt s n sd dp) := by
  unfold srcAt
  split
  · rename_i x e
    exact hs sd h x (List.mem_of_getElem? e)
  · exact .inl ⟨sd, _, h, rfl⟩
/-- how long the ring is from here on, so many steps at most -/
def ringF (s : Sid) (n : N3) (p : Nat × Nat) : Nat → Nat → Nat × Nat → Option Nat
  | 0, _, _ => none
  | f + 1, m, q => match asSpot (srcAt s n q.1 q.2) with
    | some r => if r = p then some m else if decide (r.2 < nS n r.1) = true then ringF s n p f (m + 1) r else none
    | none => none
def sumN (n : N3) : Nat := n.1 + n.2.1 + n.2.2
def ringO (s : Sid) (n : N3) (p : Nat × Nat) : Option Nat := ringF s n p (sumN n) 1 p
def optN : Option Nat → Dt
  | some m => .int (m : Nat)
  | none => .non
def spRingAt (c : Addr) : SpD := fun ws C Q _ => ∃ (i sd dp : Nat) (s : Sid) (n : N3), ws = [.o i, .d (spotD sd dp)] ∧ FarP c C i s n ∧ sd < 3 ∧ SrcRows s ∧ sumN n ≤ 1000 ∧ Q (.d (optN (ringO s n (sd, dp)))) C
theorem ok_Far_ring_at (T : Txt K mg w) : FnOk P w K mg base CX0 3 T.f_Far_ring_at.f T.f_Far_ring_at.fd ["self", "spot"] (lft K (spRingAt T.k_Far.C)) := by
  refine okD T.f_Far_ring_at.F sc_Far_ring_at (fun ws C Q X h => ?_) (fun cv A out s H E hr => ⟨_, (pss_cons (ps_set (i := 2) sc_Far_ring_at.nd rfl (.inl rfl) (pv 1))
      (pss_cons (ps_for PassesOwn.never rfl (pi_range2L (by rfl) T.b_range (pa_cons pe_int (pa_cons (pe_op (q_addA K) (pe_callB (q_sumA K rfl) (by rfl) T.b_sum (by decide +kernel) (pa_cons (pe_fldC T.k_Far.cl T.n_Far_near (pv 0)) pa_nil)) pe_int) pa_nil))) (pg_name (i := 3) sc_Far_ring_at.nd rfl (.inl rfl))
        (pss_cons (ps_set (i := 2) sc_Far_ring_at.nd rfl (.inl rfl) (pe_meth (pv 0) T.k_Far.cl T.f_Far_source.m (ok_Far_source T) (hr.mono (by first | decide | omega)) T.f_Far_source.b .nil pass0 (pa_cons (pv 2) pa_nil)))
      (pss_cons (ps_if (pt_cmpR (q_eqA K hr.units) (pv 2) (pv 1) (nomark _)) (pss_one (ps_ret (pv 3))) pss_nil)
      (pss_one (ps_if (pt_not (pt_val (pe_meth (pv 0) T.k_Far.cl T.f_Far_is_near.m (ok_Far_is_near T) (hr.mono (by first | decide | omega)) T.f_Far_is_near.b .nil pass0 (pa_cons (pv 2) pa_nil)))) (pss_one (ps_ret pe_non)) pss_nil)))))
      (pss_one (ps_ret pe_non)))), _, inferInstance, fun ws C Q X h => ?_⟩)
  · obtain ⟨i, sd, dp, s, n, rfl, _⟩ := h
    rfl
  obtain ⟨i, sd, dp, s, n, rfl, fp, hsd, hs, hn, q⟩ := h
  obtain ⟨t, l, r, h, hi, tab⟩ := id fp
  walk_at "dw"
  rw [hi]
  dsimp only
  rw [fld_near]
  dsimp only
  refine ⟨rfl, ?_⟩
  rw [show rowW C (.d (nT n)) = some [.d (.int (n.1 : Nat)), .d (.int (n.2.1 : Nat)), .d (.int (n.2.2 : Nat))] from rfl]
  dsimp only
  rw [show selI [W.d (.int (n.1 : Nat)), .d (.int (n.2.1 : Nat)), .d (.int (n.2.2 : Nat))] = some [((n.1 : Nat) : Int), ((n.2.1 : Nat) : Int), ((n.2.2 : Nat) : Int)] from rfl]
  dsimp only
  have es : (([((n.1 : Nat) : Int), ((n.2.1 : Nat) : Int), ((n.2.2 : Nat) : Int)] : List Int).sum + 1 - 1).toNat = sumN n := by
    unfold sumN
    simp only [List.sum_cons, List.sum_nil]
    omega
  rw [es]
  refine DFor.range (fun j ρ C' => C' = C ∧ ∃ (p : Nat × Nat) (y : Option W), ρ = [some (.o i), some (.d (spotD sd dp)), some (.d (spotD p.1 p.2)), y] ∧ p.1 < 3 ∧ ringF s n (sd, dp) (sumN n - j) (j + 1) p = ringO s n (sd, dp)) ⟨rfl, (sd, dp), none, rfl, hsd, rfl⟩ ?_ ?_
  · rintro ρ C' ⟨rfl, p, y, rfl, hp, hr⟩
    rw [Nat.sub_self] at hr
    walk_at "dw"
    rw [← hr] at q
    exact ret.same q
  · rintro j ρ C' hj ⟨rfl, p, y, rfl, hp, hr⟩
    obtain ⟨f, hf⟩ : ∃ f, sumN n - j = f + 1 := ⟨sumN n - j - 1, by omega⟩
    have hf2 : sumN n - (j + 1) = f := by omega
    rw [hf] at hr
    unfold ringF at hr
    walk_at "dw"
    rw [hi]
    dsimp only
    refine ⟨rfl, no_fld (by decide +kernel) (by decide +kernel), i, p.1, p.2, s, n, rfl, fp, hp, ?_⟩
    have hsrc := srcAt_src hs (n := n) (sd := p.1) (dp := p.2) hp
    generalize srcAt s n p.1 p.2 = x at hr hsrc
    walk_at "dw"
    have sq : sEq (.d x) (.d (spotD sd dp)) = none := by
      rcases hsrc with ⟨_, _, _, rfl⟩ | ⟨_, _, rfl⟩ <;> exact sEq_tt
    rw [sq]
    dsimp only
    refine ⟨x, spotD sd dp, rds_d, rds_d, ⟨(src_pln hsrc).1, (src_pln hsrc).2, spot_pln.1, spot_pln.2⟩, fun c hc => ?_⟩
    dsimp only
    have e1 : (1 : Int) + (j : Nat) = ((j + 1 : Nat) : Int) := by omega
    refine iteB (fun e => ?_) (fun e => ?_)
    · have hx := hc.mp e
      rw [hx, asSpot_spot hsd] at hr
      dsimp only at hr
      rw [if_pos rfl] at hr
      rw [← hr] at q
      rw [e1]
      exact ret.same q
    · have hx : x ≠ spotD sd dp := fun h => by rw [hc.mpr h] at e; cases e
      rw [hi]
      dsimp only
      refine ⟨rfl, no_fld (by decide +kernel) (by decide +kernel), i, x, s, n, rfl, fp, hsrc, ?_⟩
      dsimp only
      rcases hsrc with ⟨sd', dp', h3, rfl⟩ | ⟨i', a', rfl⟩
      · rw [asSpot_spot h3] at hr
        dsimp only at hr
        rw [if_neg (fun h => hx (by cases h; rfl)), ← near_spot h3] at hr
        cases hn' : isNr n (spotD sd' dp') with
        | true =>
          rw [hn', if_pos rfl] at hr
          exact iteF ⟨rfl, (sd', dp'), _, rfl, h3, by rw [hf2]; exact hr⟩
        | false =>
          rw [hn', if_neg (by decide)] at hr
          rw [← hr] at q
          exact iteT (ret.same q)
      · rw [asSpot_typed] at hr
        rw [near_typed]
        rw [← hr] at q
        exact iteT (ret.same q)

/-! ## all of a table's things are sources -/
structure Srcs (s : Sid) : Prop where
  l : ∀ x ∈ s.l, IsSrc x
  r : ∀ x ∈ s.r, IsSrc x
  c : ∀ x ∈ s.c, IsSrc x
theorem srcs_near {n : Nat} {x : List Dt} (h : ∀ y ∈ x, IsSrc y) : (∀ y ∈ nearD n x, IsSrc y) ∧ ∀ y ∈ farD n x, IsSrc y :=
  ⟨fun y hy => h y (List.mem_of_mem_drop (List.mem_reverse.mp hy)), fun y hy => h y (List.mem_of_mem_take hy)⟩
theorem srcs_app {x z : List Dt} (h : ∀ y ∈ x, IsSrc y) (k : ∀ y ∈ z, IsSrc y) : ∀ y ∈ x ++ z, IsSrc y := fun y hy => (List.mem_append.mp hy).elim (h y) (k y)
theorem srcs_marks (i : Nat) (k : Ky) : ∀ y ∈ marksD i k, IsSrc y := fun y hy => by
  cases k with
  | write w =>
    obtain ⟨a, _, rfl⟩ := List.mem_map.mp hy
    exact .inr ⟨i, a, rfl⟩
  | _ => cases hy
theorem srcs_step {s : Sid} (h : Srcs s) (i : Nat) (k : Ky) : Srcs ⟨(kstep k (marksD i k) s.l s.r s.c).1, (kstep k (marksD i k) s.l s.r s.c).2.1, (kstep k (marksD i k) s.l s.r s.c).2.2⟩ := by
  have hm := srcs_marks i k
  cases k with
  | write w => exact ⟨srcs_app h.l hm, h.r, h.c⟩
  | paste => exact ⟨srcs_app h.l h.c, h.r, h.c⟩
  | left n => exact ⟨(srcs_near h.l).2, srcs_app h.r (srcs_near h.l).1, h.c⟩
  | right n => exact ⟨srcs_app h.l (srcs_near h.r).1, (srcs_near h.r).2, h.c⟩
  | rub n => exact ⟨(srcs_near h.l).2, h.r, h.c⟩
  | strike n => exact ⟨h.l, (srcs_near h.r).2, h.c⟩
  | copy n => exact ⟨h.l, h.r, (srcs_near h.r).1⟩
  | cut n => exact ⟨h.l, (srcs_near h.r).2, (srcs_near h.r).1⟩
theorem srcs_kst (ks : List Ky) {s : Sid} (h : Srcs s) : ∀ i, Srcs (kst ks s i)
  | 0 => h
  | i + 1 => by
    unfold kst
    split
    · exact srcs_step (srcs_kst ks h i) i _
    · exact srcs_kst ks h i
theorem srcs_row {sd n : Nat} (h : sd < 3) : ∀ y ∈ rowD (sideS sd) n, IsSrc y := fun y hy => by
  obtain ⟨d, _, rfl⟩ := List.mem_map.mp hy
  exact .inl ⟨sd, d, h, rfl⟩
theorem tab_srcs (ks : List Ky) (L R c : Nat) : SrcRows (tabD ks L R c) := by
  have h0 : Srcs (sid0 L R c) := ⟨fun y hy => srcs_row (sd := 0) (by decide) y (List.mem_reverse.mp hy), fun y hy => srcs_row (sd := 1) (by decide) y (List.mem_reverse.mp hy), fun y hy => srcs_row (sd := 2) (by decide) y hy⟩
  have h := srcs_kst ks h0 ks.length
  intro sd hsd x hx
  match sd, hsd with
  | 0, _ => exact h.l x (List.mem_reverse.mp hx)
  | 1, _ => exact h.r x (List.mem_reverse.mp hx)
  | 2, _ => exact h.c x hx
/-! ## rings -/
def spots3 (n : N3) : List (Nat × Nat) := (List.range n.1).map (fun d => (0, d)) ++ (List.range n.2.1).map (fun d => (1, d)) ++ (List.range n.2.2).map (fun d => (2, d))
theorem spots3_D (n : N3) : rowD (cd "left") n.1 ++ rowD (cd "right") n.2.1 ++ rowD (cd "clip") n.2.2 = (spots3 n).map fun p => spotD p.1 p.2 := by
  unfold spots3
  rw [List.map_append, List.map_append, List.map_map, List.map_map, List.map_map]
  rfl
def farN (ks : List Ky) : N3 := (nr true ks, nr false ks, heldK ks)
def farS (ks : List Ky) : Sid := tabD ks (nr true ks) (nr false ks) (heldK ks)
def founds (ks : List Ky) : List (Option Nat) := (spots3 (farN ks)).map (ringO (farS ks) (farN ks))
def ringsL (os : List (Option Nat)) (j : Nat) : List Nat := (List.range j).flatMap fun i => List.replicate (os.count (some (i + 1)) / (i + 1)) (i + 1)
theorem ext_split {C C' : Cs} (h : ∀ (j : Nat) c, C[j]? = some c → C'[j]? = some c) : ∃ ex, C' = C ++ ex := by
  refine ⟨C'.drop C.length, ?_⟩
  have e : C'.take C.length = C := by
    refine List.ext_getElem? fun j => ?_
    by_cases hj : j < C.length
    · rw [List.getElem?_take_of_lt hj, List.getElem?_eq_getElem hj]
      exact h j _ (List.getElem?_eq_getElem hj)
    · rw [List.getElem?_eq_none_iff.mpr (show (C'.take C.length).length ≤ j by rw [List.length_take]; omega), List.getElem?_eq_none_iff.mpr (show C.length ≤ j by omega)]
  conv => lhs; rw [← List.take_append_drop C.length C', e]
theorem TabO.app {n : Nat} {C ex : Cs} {t i j h : Nat} {s : Sid} (T : TabO n C t i j h s) : TabO n (C ++ ex) t i j h s := ⟨app_at T.row, app_at T.l, app_at T.r, app_at T.c, T.dis, T.new⟩
theorem FarP.app {c : Addr} {C ex : Cs} {i : Nat} {s : Sid} {n : N3} (h : FarP c C i s n) : FarP c (C ++ ex) i s n := by
  obtain ⟨t, l, r, k, h1, h2⟩ := h
  exact ⟨t, l, r, k, app_at h1, h2.app⟩
theorem mem_spots3 {n : N3} {p : Nat × Nat} (h : p ∈ spots3 n) : p.1 < 3 ∧ p.2 < nS n p.1 := by
  unfold spots3 at h
  rcases List.mem_append.mp h with h | h
  · rcases List.mem_append.mp h with h | h
    · obtain ⟨d, hd, rfl⟩ := List.mem_map.mp h
      exact ⟨(show (0 : Nat) < 3 by decide), List.mem_range.mp hd⟩
    · obtain ⟨d, hd, rfl⟩ := List.mem_map.mp h
      exact ⟨(show (1 : Nat) < 3 by decide), List.mem_range.mp hd⟩
  · obtain ⟨d, hd, rfl⟩ := List.mem_map.mp h
    exact ⟨(show (2 : Nat) < 3 by decide), List.mem_range.mp hd⟩
theorem spots3_len (n : N3) : (spots3 n).length = sumN n := by
  unfold spots3 sumN
  rw [List.length_append, List.length_append, List.length_map, List.length_map, List.length_map, List.length_range, List.length_range, List.length_range]
def ringD (s : Sid) (n : N3) (x : Dt) : Dt := match asSpot x with
  | some p => optN (ringO s n p)
  | none => .non
theorem ringD_map (s : Sid) (n : N3) : ((spots3 n).map fun p => spotD p.1 p.2).map (ringD s n) = ((spots3 n).map (ringO s n)).map optN := by
  rw [List.map_map, List.map_map]
  refine List.map_congr_left fun p hp => ?_
  show ringD s n (spotD p.1 p.2) = _
  unfold ringD
  rw [asSpot_spot (mem_spots3 hp).1]
  rfl
def optV : Option Nat → V
  | some m => .int (m : Nat)
  | none => .non
theorem toVs_opt : ∀ os : List (Option Nat), toVs ((os.map optN).map W.d) = some (os.map optV)
  | [] => rfl
  | o :: os => by
    show toVs (W.d (optN o) :: (os.map optN).map W.d) = _
    unfold toVs
    rw [toVs_opt os]
    cases o <;> rfl
theorem cnt_opt (m : Nat) : ∀ os : List (Option Nat), (os.map optV).countP (fun z => eqV z (V.int (m : Nat))) = os.count (some m)
  | [] => rfl
  | o :: os => by
    rw [List.map_cons, List.countP_cons, List.count_cons, cnt_opt m os]
    congr 1
    cases o with
    | none => rfl
    | some k =>
      show (if decide (((k : Nat) : Int) = ((m : Nat) : Int)) = true then 1 else 0) = _
      by_cases h : k = m
      · rw [if_pos (decide_eq_true (by omega)), if_pos (by rw [h]; exact beq_self_eq_true _)]
      · rw [if_neg (by rw [decide_eq_false (by omega)]; decide), if_neg (by intro e; exact h (Option.some.inj (eq_of_beq e)))]
theorem ringsL_succ (os : List (Option Nat)) (j : Nat) : ringsL os (j + 1) = ringsL os j ++ List.replicate (os.count (some (j + 1)) / (j + 1)) (j + 1) := by
  unfold ringsL
  rw [List.range_succ, List.flatMap_append]
  simp
theorem cnt_le (os : List (Option Nat)) (j : Nat) : os.count (some (j + 1)) / (j + 1) ≤ os.length := Nat.le_trans (Nat.div_le_self _ _) List.count_le_length
theorem ringsL_len (os : List (Option Nat)) : ∀ j, (ringsL os j).length ≤ j * os.length
  | 0 => Nat.zero_le _
  | j + 1 => by
    rw [ringsL_succ, List.length_append, List.length_replicate, Nat.add_mul, Nat.one_mul]
    exact Nat.add_le_add (ringsL_len os j) (cnt_le os j)
def natT (l : List Nat) : List W := (l.map fun m : Nat => Dt.int (m : Nat)).map W.d
def spRings : SpD := fun ws C Q _ => ∃ (w : W) (d : Dt) (ks : List Ky), ws = [w] ∧ HandW C w d ∧ isHandOf d ks ∧ Q (.o C.length) (C ++ [.lst (natT (ringsL (founds ks) (founds ks).length))])

/-! ## the law's spring -/
def SprW (F S c : Int) : Cell := .lst [.d (.int F), .d (.int S), .d (.int c)]
def Sprg (C : Cs) (b : Nat) : Prop := ∃ F S c : Int, C[b]? = some (SprW F S c) ∧ 0 ≤ F ∧ 0 ≤ S ∧ S < 2305843009213693951 ∧ 0 ≤ c
theorem sprW_clo {n : Nat} {F S c : Int} : Clo n (SprW F S c) := clo_lst rfl
theorem Sprg.app {C : Cs} {b : Nat} (h : Sprg C b) (ex : Cs) : Sprg (C ++ ex) b := by
  obtain ⟨F, S, c, h0, h⟩ := h
  exact ⟨F, S, c, app_at h0, h⟩
theorem Sprg.off {C : Cs} {b j : Nat} {x : Cell} (h : Sprg C b) (n : j ≠ b) : Sprg (C.set j x) b := by
  obtain ⟨F, S, c, h0, h⟩ := h
  exact ⟨F, S, c, by rw [set_off n]; exact h0, h⟩
theorem Sprg.take {C : Cs} {b n : Nat} (h : Sprg C b) (e : b < n) : Sprg (C.take n) b := by
  obtain ⟨F, S, c, h0, h⟩ := h
  exact ⟨F, S, c, by rw [take_at e]; exact h0, h⟩
theorem Sprg.lt {C : Cs} {b : Nat} (h : Sprg C b) : b < C.length := by
  obtain ⟨F, S, c, h0, h⟩ := h
  exact lt_at h0
/-- the spring is drawn from, all else stays -/
structure STo (b : Nat) (C C' : Cs) : Prop where
  but : But b C C'
  spr : Sprg C' b
theorem STo.refl {b : Nat} {C : Cs} (h : Sprg C b) : STo b C C := ⟨.refl, h⟩
theorem STo.trans {b : Nat} {C C1 C2 : Cs} (h : STo b C C1) (k : STo b C1 C2) : STo b C C2 := ⟨h.but.trans k.but, k.spr⟩
theorem STo.app {b : Nat} {C C' : Cs} (h : STo b C C') (ex : Cs) : STo b C (C' ++ ex) := ⟨h.but.new ex, h.spr.app ex⟩
theorem STo.mut {b j : Nat} {C C' : Cs} (h : STo b C C') (hj : C.length ≤ j) (hb : b < C.length) (x : Cell) : STo b C (C'.set j x) := ⟨h.but.mut hj x, h.spr.off (by omega)⟩
theorem STo.at {b j : Nat} {C C' : Cs} {c : Cell} (h : STo b C C') (n : j ≠ b) (hj : C[j]? = some c) : C'[j]? = some c := h.but.keep j c n hj
theorem ret.spr {b : Nat} {C C' : Cs} {x : Dt} {Q : W → Cs → Prop} (hb : b < C.length) (h : STo b C C') (q : ∀ C1, STo b C C1 → Q (.d x) C1) : ret C Q (.d x) C' := by
  obtain ⟨F, S, c, h0, _⟩ := id h.spr
  exact ret.but h.but h0 sprW_clo (q _ ⟨h.but.take, h.spr.take hb⟩)
theorem ret.sprL {b j : Nat} {C C' : Cs} {ds : List Dt} {Q : W → Cs → Prop} (hb : b < C.length) (h : STo b C C') (hj : C.length ≤ j) (hc : C'[j]? = some (.lst (ds.map W.d))) (q : ∀ C1, STo b C C1 → Q (.d (.lst ds)) C1) : ret C Q (.o j) C' := by
  obtain ⟨F, S, c, h0, _⟩ := id h.spr
  exact ret.butL h.but h0 sprW_clo hj hc (q _ ⟨h.but.take, h.spr.take hb⟩)
def spDrawS : SpD := fun ws C Q _ => ∃ (b : Nat) (many : Int), ws = [.o b, .d (.int many)] ∧ Sprg C b ∧ 1 ≤ many ∧ many < 10 ^ 40 ∧ ∀ (r : Nat) C', (r : Int) < many → STo b C C' → Q (.d (.int r)) C'
theorem ok__law_draw (T : Txt K mg w) : FnOk P w K mg base CX0 1 T.f__law_draw.f T.f__law_draw.fd ["spring", "many"] (lft K spDrawS) := by
  refine okD T.f__law_draw.F sc__law_draw (fun ws C Q X h => ?_) (fun cv A out s H E hr => ⟨_, (pss_cons (ps_if (pt_cmpR op_gt (pe_ix (ix_seqK K) (pv 0) pe_int (fun _ _ => rfl)) pe_int (nomark _)) (pss_cons (ps_set (i := 2) sc__law_draw.nd rfl (.inl rfl) (pe_op op_mod (pe_ix (ix_seqK K) (pv 0) pe_int (fun _ _ => rfl)) (pv 1)))
      (pss_cons (ps_asg (pe_op op_fdivW (pe_ix (ix_seqK K) (pv 0) pe_int (fun _ _ => rfl)) (pv 1)) (pg_sub (pv 0) pe_int set_list))
      (pss_one (ps_ret (pv 2))))) pss_nil)
      (pss_cons (ps_asg (pe_op (q_addA K) (pe_ix (ix_seqK K) (pv 0) pe_int (fun _ _ => rfl)) pe_int) (pg_sub (pv 0) pe_int set_list))
      (pss_cons (ps_set (i := 3) sc__law_draw.nd rfl (.inl rfl) (pe_op op_mod (pe_op op_mul (pe_ix (ix_seqK K) (pv 0) pe_int (fun _ _ => rfl)) (pe_ix (ix_seqK K) (pv 0) pe_int (fun _ _ => rfl))) pe_int))
      (pss_cons (ps_asg (pe_op op_mod (pe_op (q_addA K) (pe_op (q_addA K) (pv 3) (pe_op op_mul (pe_op op_mul pe_int (pe_ix (ix_seqK K) (pv 0) pe_int (fun _ _ => rfl))) (pe_ix (ix_seqK K) (pv 0) pe_int (fun _ _ => rfl)))) pe_int) pe_int) (pg_sub (pv 0) pe_int set_list))
      (pss_one (ps_ret (pe_op op_mod (pe_op op_fdiv (pe_ix (ix_seqK K) (pv 0) pe_int (fun _ _ => rfl)) pe_int) (pv 1)))))))), _, inferInstance, fun ws C Q X h => ?_⟩)
  · obtain ⟨b, many, rfl, _⟩ := h
    rfl
  obtain ⟨b, many, rfl, ⟨F, S, c, hb, F0, S0, S1, c0⟩, m1, m2, q⟩ := h
  have lt := lt_at hb
  have mp : (0 : Int) < many := by omega
  have modN : ∀ x : Int, ∃ n : Nat, x % many = n ∧ (n : Int) < many := fun x => by
    obtain ⟨n, hn⟩ := Int.eq_ofNat_of_zero_le (Int.emod_nonneg x (show many ≠ 0 by omega))
    exact ⟨n, hn, by rw [← hn]; exact Int.emod_lt_of_pos x mp⟩
  have dv : ∀ x : Int, CDivW x many := fun x => ⟨mp, by
    have : many.natAbs < 2 ^ 200 := Nat.lt_of_lt_of_le (show many.natAbs < 10 ^ 40 by omega) (by decide)
    have := (Nat.log2_lt (show many.natAbs ≠ 0 by omega)).mpr this
    omega⟩
  have fin : ∀ (x F' S' c' : Int), 0 ≤ F' → 0 ≤ S' → S' < 2305843009213693951 → 0 ≤ c' → ret C Q (W.d (Dt.int (x % many))) (C.set b (SprW F' S' c')) := fun x F' S' c' h1 h2 h3 h4 => by
    obtain ⟨n, hn, hl⟩ := modN x
    rw [hn]
    exact ret.spr lt ⟨But.refl.set _, F', S', c', set_at hb, h1, h2, h3, h4⟩ fun C1 h1 => q n C1 hl h1
  walk_at "dw"
  repeat (simp only [hb, SprW, set_at hb]; walk_at "dw")
  refine iteB (fun e => ?_) (fun e => ?_)
  · exact ⟨mp, dv F, fin F _ _ _ (Int.ediv_nonneg F0 (by omega)) S0 S1 c0⟩
  · have h1 := Int.emod_nonneg (S * S % 2305843009213693951 + 7919 * (c + 1) * S + 104729) (show (2305843009213693951 : Int) ≠ 0 by decide)
    have h2 := Int.emod_lt_of_pos (S * S % 2305843009213693951 + 7919 * (c + 1) * S + 104729) (show (0 : Int) < 2305843009213693951 by decide)
    have b1 : -(2 ^ 64) < S ∧ S < 2 ^ 64 := by omega
    exact ⟨.inl b1, by decide, .inl ⟨by decide, by decide⟩, .inr b1, by decide, ⟨by decide, by decide⟩, mp, fin _ _ _ _ F0 h1 h2 (by omega)⟩
theorem pow60D : (10 : Nat) ^ 60 ≤ 2 ^ 200 := by decide +kernel
theorem fig_stepD {F r : Int} {n : Nat} (h0 : 0 ≤ F) (h : F.natAbs < 2 ^ n) (r0 : 0 ≤ r) (hr : r < 1000000000000000000000000000000000000000000000000000000000000) : 0 ≤ F * 1000000000000000000000000000000000000000000000000000000000000 + r ∧ (F * 1000000000000000000000000000000000000000000000000000000000000 + r).natAbs < 2 ^ (n + 200) := by
  obtain ⟨f, rfl⟩ := Int.eq_ofNat_of_zero_le h0
  obtain ⟨g, rfl⟩ := Int.eq_ofNat_of_zero_le r0
  have e : ((f : Int) * 1000000000000000000000000000000000000000000000000000000000000 + (g : Int)) = ((f * 1000000000000000000000000000000000000000000000000000000000000 + g : Nat) : Int) := by
    rw [Int.natCast_add, Int.natCast_mul]
    rfl
  rw [e]
  refine ⟨Int.natCast_nonneg _, ?_⟩
  rw [Int.natAbs_natCast] at h ⊢
  have hg : g < 1000000000000000000000000000000000000000000000000000000000000 := by omega
  have h1 : f * 1000000000000000000000000000000000000000000000000000000000000 + g < (f + 1) * 1000000000000000000000000000000000000000000000000000000000000 := by
    rw [Nat.add_mul, Nat.one_mul]
    omega
  have h2 : (f + 1) * 1000000000000000000000000000000000000000000000000000000000000 ≤ 2 ^ n * 2 ^ 200 := Nat.mul_le_mul h pow60D
  rw [Nat.pow_add]
  exact Nat.lt_of_lt_of_le h1 h2
def spSpringD : SpD := fun ws C Q _ => ∃ ns, ws = [.d (scriptD ns)] ∧ ns.length ≤ 63 ∧ ∀ F S : Int, 0 ≤ F → 0 ≤ S → S < 2305843009213693951 → Q (.o C.length) (C ++ [SprW F S 0])
theorem ok__law_spring (T : Txt K mg w) : FnOk P w K mg base CX0 1 T.f__law_spring.f T.f__law_spring.fd ["script"] (lft K spSpringD) := by
  refine okD T.f__law_spring.F sc__law_spring (fun ws C Q X h => ?_) (fun cv A out s H E hr => ⟨_, (pss_cons (ps_set (i := 1) sc__law_spring.nd rfl (.inl rfl) pe_int)
      (pss_cons (ps_set (i := 2) sc__law_spring.nd rfl (.inl rfl) pe_int)
      (pss_cons (ps_for PassesOwn.never rfl (pi_row K (pe_slice (sl_listK (K := K)) (pv 0) po_none (po_some pe_int))) (pg_name (i := 3) sc__law_spring.nd rfl (.inl rfl))
        (pss_cons (ps_if (pt_cmpR op_ge (pe_callB q_abs (by rfl) T.b_abs (by decide +kernel) (pa_cons (pv 3) pa_nil)) (pe_op op_pow pe_int pe_int) (nomark _)) (pss_one (ps_set (i := 1) sc__law_spring.nd rfl (.inl rfl) (pe_op (q_addA K) (pe_op op_mulW (pv 1) (pe_op op_pow pe_int pe_int)) (pe_op op_mod (pe_callB q_abs (by rfl) T.b_abs (by decide +kernel) (pa_cons (pv 3) pa_nil)) (pe_op op_pow pe_int pe_int))))) pss_nil)
      (pss_one (ps_set (i := 2) sc__law_spring.nd rfl (.inl rfl) (pe_op op_mod (pe_op (q_addA K) (pe_op (q_addA K) (pe_op op_mul (pv 2) pe_int) (pe_op op_mod (pv 3) pe_int)) pe_int) pe_int)))))
      (pss_one (ps_ret (pe_lst (pa_cons (pv 1) (pa_cons (pv 2) (pa_cons pe_int pa_nil))))))))), _, inferInstance, fun ws C Q X h => ?_⟩)
  · obtain ⟨ns, rfl, _⟩ := h
    rfl
  obtain ⟨ns, rfl, h63, q⟩ := h
  walk_at "dw"
  have hcut : cutW ((ns.map Dt.int).map W.d) none (some 63) = (ns.map Dt.int).map W.d := by
    have hl : ((ns.map Dt.int).map W.d).length ≤ 63 := by rw [List.length_map, List.length_map]; exact h63
    generalize (ns.map Dt.int).map W.d = xs at hl
    unfold cutW
    rw [HT.sIx_none, show HT.sIx xs.length xs.length (some 63) = min 63 xs.length from HT.sIx_nat xs.length xs.length 63, List.drop_zero, Nat.sub_zero, Nat.min_eq_right hl, List.take_length]
  rw [hcut]
  refine newL_d ?_
  walk_at "dw"
  refine DFor.dlist (fun i ρ C' => ∃ (F S : Int) (y : Option W), ρ = [some (.d (scriptD ns)), some (.d (.int F)), some (.d (.int S)), y] ∧ C' = C ∧ 0 ≤ F ∧ F.natAbs < 2 ^ (200 * i + 1) ∧ 0 ≤ S ∧ S < 2305843009213693951) ⟨0, 88651, none, rfl, rfl, by decide, by decide, by decide, by decide⟩ ?_ ?_
  · rintro ρ C' ⟨F, S, y, rfl, rfl, F0, F1, S0, S1⟩
    walk_at "dw"
    exact newL_o (ret.same (q F S F0 S0 S1))
  · rintro i x ρ C' hx ⟨F, S, y, rfl, rfl, F0, F1, S0, S1⟩
    have hi : i < ns.length := by
      have := (List.getElem?_eq_some_iff.mp hx).1
      rwa [List.length_map] at this
    obtain ⟨c, _, rfl⟩ := List.mem_map.mp (List.mem_of_getElem? hx)
    walk_at "dw"
    have hab : 0 ≤ (if c < 0 then -c else c) := by split <;> omega
    have h60 : (10 : Int) ^ (Int.toNat 60) = 1000000000000000000000000000000000000000000000000000000000000 := by decide +kernel
    have hm1 : 0 ≤ (if c < 0 then -c else c) % 1000000000000000000000000000000000000000000000000000000000000 := Int.emod_nonneg _ (by decide)
    have hm2 : (if c < 0 then -c else c) % 1000000000000000000000000000000000000000000000000000000000000 < 1000000000000000000000000000000000000000000000000000000000000 := Int.emod_lt_of_pos _ (by decide)
    have stp := fig_stepD F0 F1 hm1 hm2
    have hs1 : 0 ≤ (S * 69069 + c % 2305843009213693921 + 7) % 2305843009213693951 := Int.emod_nonneg _ (by decide)
    have hs2 : (S * 69069 + c % 2305843009213693921 + 7) % 2305843009213693951 < 2305843009213693951 := Int.emod_lt_of_pos _ (by decide)
    have hpw : 2 ^ (200 * i + 1) ≤ 2 ^ (200 * (i + 1) + 1) := Nat.pow_le_pow_right (by decide) (by omega)
    refine ⟨⟨by decide, by decide, by decide⟩, iteB (fun e => ?_) (fun e => ?_)⟩
    · rw [h60]
      exact ⟨⟨by decide, by decide, by decide⟩, wide_mul F1 (b := 200) (by decide +kernel) (by omega) (by decide) (by omega), ⟨by decide, by decide, by decide⟩, (show (0 : Int) < 1000000000000000000000000000000000000000000000000000000000000 by decide), .inl ⟨by omega, by omega⟩, by decide, by decide, _, _, _, rfl, stp.1, Nat.lt_of_lt_of_le stp.2 (Nat.pow_le_pow_right (by decide) (by omega)), hs1, hs2⟩
    · exact ⟨.inl ⟨by omega, by omega⟩, by decide, by decide, _, _, _, rfl, F0, Nat.lt_of_lt_of_le F1 hpw, hs1, hs2⟩

/-! ## letters drawn -/
def kindS (z : List Nat) : Prop := z ≠ [] ∧ z.length ≤ 26 ∧ Plain z
theorem plain_oneS {z : List Nat} {c : Nat} (h : Plain z) (hc : c ∈ z) : Plain [c] := by
  unfold Plain at h ⊢
  have := List.all_eq_true.mp h c hc
  simpa using this
theorem plain_flatS {zs : List (List Nat)} (h : ∀ z ∈ zs, Plain z) : Plain zs.flatten := by
  unfold Plain
  rw [List.all_eq_true]
  intro c hc
  obtain ⟨z, hz, hcz⟩ := List.mem_flatten.mp hc
  exact List.all_eq_true.mp (h z hz) c hcz
def spWordS : SpD := fun ws C Q _ => ∃ (b : Nat) (k : Nat), ws = [.o b, .d (.int k)] ∧ Sprg C b ∧ 1 ≤ k ∧ k ≤ 100 ∧ ∀ (z : List Nat) C', 1 ≤ z.length → z.length ≤ k → Plain z → STo b C C' → Q (.d (.str z)) C'
theorem ok__law_word (T : Txt K mg w) : FnOk P w K mg base CX0 2 T.f__law_word.f T.f__law_word.fd ["spring", "most"] (lft K spWordS) := by
  refine okD T.f__law_word.F sc__law_word (fun ws C Q X h => ?_) (fun cv A out s H E hr => ⟨_, (pss_cons (ps_set (i := 2) sc__law_word.nd rfl (.inr rfl) (pe_ix (ix_seqK K) (pe_lst (pa_cons pe_strL (pa_cons pe_strL (pa_cons pe_strL (pa_cons pe_strL pa_nil))))) (pe_call (ok__law_draw T) (hr.mono (by first | decide | omega)) (by rfl) T.f__law_draw.g T.f__law_draw.F.kp T.f__law_draw.b .nil pass0 (pa_cons (pv 0) (pa_cons pe_int pa_nil))) (fun _ _ => rfl)))
      (pss_one (ps_ret (pe_m1 PySem.F.slot_str_join PySem.F.type_str_join (q_join K) pe_strL (pe_lcK [3] (pe_lc (own := [("k", 3)]) rfl sc__law_word.nd (pi_range1 (by rfl) T.b_range (pa_cons (pe_op (q_addA K) pe_int (pe_call (ok__law_draw T) (hr.mono (by first | decide | omega)) (by rfl) T.f__law_draw.g T.f__law_draw.F.kp T.f__law_draw.b .nil pass0 (pa_cons (pv 0) (pa_cons (pv 1) pa_nil)))) pa_nil)) (blkOk_by (own := [("k", 3)]) (N := N__law_word) (sc := defScope s__law_word) (by decide +kernel)) (fun _ _ _ _ _ => (pg_name (i := 3) sc__law_word.nd rfl (.inl rfl))) (fun _ _ _ _ _ => pts_nil) (fun _ _ _ _ _ => (pe_ix (ix_seqK K) (pv 2) (pe_call (ok__law_draw T) (hr.mono (by first | decide | omega)) (by rfl) T.f__law_draw.g T.f__law_draw.F.kp T.f__law_draw.b .nil pass0 (pa_cons (pv 0) (pa_cons (pe_callB (call_lenK K) (by rfl) T.b_len (by decide +kernel) (pa_cons (pv 2) pa_nil)) pa_nil))) (fun _ _ => rfl))))))))), _, inferInstance, fun ws C Q X h => ?_⟩)
  · obtain ⟨b, k, rfl, _⟩ := h
    rfl
  obtain ⟨b, k, rfl, hb, hk1, hk, q⟩ := h
  walk_at "dw"
  refine newL_f (ds := [.str (cd "ab"), .str (cd "a"), .str (cd "abcdefghijklmnopqrstuvwxyz"), .str (cd "zy")]) rfl ?_
  refine ⟨b, 4, rfl, hb, by decide, by decide, fun r C1 hr1 b1 => ?_⟩
  obtain ⟨x, hx, hxm⟩ := atI_lt (xs := [Dt.str (cd "ab"), .str (cd "a"), .str (cd "abcdefghijklmnopqrstuvwxyz"), .str (cd "zy")]) (show r < 4 by omega)
  have hz : ∃ z, x = .str z ∧ kindS z := by
    simp only [List.mem_cons, List.not_mem_nil, or_false] at hxm
    rcases hxm with rfl | rfl | rfl | rfl <;> exact ⟨_, rfl, by decide +kernel, by decide +kernel, by unfold Plain; decide +kernel⟩
  obtain ⟨z, rfl, zn, zl, zp⟩ := hz
  walk_at "dw"
  rw [hx]
  walk_at "dw"
  have c1 := b1.spr.lt
  refine ⟨b, (k : Int), rfl, b1.spr, by omega, by omega, fun u C2 hu b2 => ?_⟩
  have e : ((1 : Int) + (u : Int)).toNat = 1 + u := by omega
  have c2 := b2.spr.lt
  dsimp only
  refine ⟨⟨by omega, by omega⟩, ?_⟩
  rw [e]
  refine DLc.gen (1 + u) (fun i => .d (.int (0 + i))) (fun i ds C' => STo b C2 C' ∧ ∃ zs : List (List Nat), ds = zs.map Dt.str ∧ zs.length = i ∧ ∀ z ∈ zs, z.length = 1 ∧ Plain z) (by omega) ⟨(STo.refl b2.spr).app _, [], rfl, rfl, (fun z hz => nomatch hz)⟩ (fun i ds C' hi _ => itRng_if i C') ?_ ?_
  · rintro i ds C3 hi ⟨b3, zs, rfl, hzl, hzp⟩ hc R S hR hS
    walk_at "dw"
    refine ⟨b, z.length, rfl, b3.spr, by have := List.length_pos_iff.mpr zn; omega, by omega, fun v C4 hv b4 => ?_⟩
    obtain ⟨c, hcz, hcm⟩ := atI_lt (xs := z) (show v < z.length by omega)
    walk_at "dw"
    rw [hcz]
    have hc4 := b4.at (by omega) hc
    refine hR _ C4 hc4 ⟨(b3.trans b4).mut (Nat.le_refl _) c2 _, zs ++ [[c]], by rw [List.map_append]; rfl, by rw [List.length_append, hzl]; rfl, fun y hy => ?_⟩
    rcases List.mem_append.mp hy with hy | hy
    · exact hzp y hy
    · rw [List.mem_singleton.mp hy]
      exact ⟨rfl, plain_oneS zp hcm⟩
  · rintro ds C3 ⟨b3, zs, rfl, hzl, hzp⟩ hc _
    have b13 := b2.trans b3
    refine ret.sprL c1 b13 b2.but.len hc fun C4 b4 => ?_
    have st : selT ((zs.map Dt.str).map W.d) = some zs := by rw [List.map_map]; exact selT_map zs
    have fl : zs.flatten.length = 1 + u := by
      have : ∀ ys : List (List Nat), (∀ z ∈ ys, z.length = 1 ∧ Plain z) → ys.flatten.length = ys.length := fun ys => by
        induction ys with
        | nil => intro _; rfl
        | cons y ys ih => intro h; rw [List.flatten_cons, List.length_append, (h y (List.mem_cons_self ..)).1, ih fun z hz => h z (List.mem_cons_of_mem _ hz), List.length_cons]; omega
      rw [this zs hzp, hzl]
    have sm : (zs.map (·.length)).sum = 1 + u := by rw [← List.length_flatten]; exact fl
    walk_at "dw"
    rw [st]
    show _ ∧ _ ∧ _
    rw [show cd (Str.ofString "") = [] from rfl, joinL_nil, sm, List.length_nil, Nat.mul_zero, fl]
    exact ⟨by omega, by omega, ret.spr hb.lt (b1.trans b4) fun C5 b5 => q _ C5 (by omega) (by omega) (plain_flatS fun z hz => (hzp z hz).2) b5⟩

/-! ## a hand drawn -/
theorem setI_end {α : Type} (xs : List α) (u v : α) : setI (xs ++ [u]) (-1) v = some (xs ++ [v]) := by
  unfold setI
  have h : ixN (xs ++ [u]).length (-1) = some xs.length := by
    rw [List.length_append]
    show ixN (xs.length + 1) (-1) = _
    unfold ixN
    rw [if_neg (by decide), if_pos (by omega)]
    congr 1
    omega
  rw [h]
  show some ((xs ++ [u]).set xs.length v) = _
  rw [List.set_append_right _ _ (Nat.le_refl _), Nat.sub_self]
  rfl
def spHandS : SpD := fun ws C Q _ => ∃ (b most wide : Nat), ws = [.o b, .d (.int most), .d (.int wide)] ∧ Sprg C b ∧ most ≤ 100 ∧ 1 ≤ wide ∧ wide ≤ 60 ∧ ∀ (ks : List Ky) C', GoodH ks → ks.length ≤ most → hwt ks ≤ most * wide → STo b C C' → Q (.d (dH ks)) C'
theorem ok__law_hand (T : Txt K mg w) : FnOk P w K mg base CX0 3 T.f__law_hand.f T.f__law_hand.fd ["spring", "most", "wide"] (lft K spHandS) := by
  refine okD T.f__law_hand.F sc__law_hand (fun ws C Q X h => ?_) (fun cv A out s H E hr => ⟨_, (pss_cons (ps_set (i := 3) sc__law_hand.nd rfl (.inl rfl) (pe_lst pa_nil))
      (pss_cons (ps_set (i := 4) sc__law_hand.nd rfl (.inl rfl) pe_int)
      (pss_cons (ps_for PassesOwn.never rfl (pi_range1 (by rfl) T.b_range (pa_cons (pe_call (ok__law_draw T) (hr.mono (by first | decide | omega)) (by rfl) T.f__law_draw.g T.f__law_draw.F.kp T.f__law_draw.b .nil pass0 (pa_cons (pv 0) (pa_cons (pe_op (q_addA K) (pv 1) pe_int) pa_nil))) pa_nil)) (pg_name (i := 5) sc__law_hand.nd rfl (.inl rfl))
        (pss_cons (ps_set (i := 6) sc__law_hand.nd rfl (.inl rfl) (pe_callB (q_min2 rfl) (by rfl) T.b_min (by decide +kernel) (pa_cons (pv 4) (pa_cons (pe_op (q_addA K) pe_int (pe_call (ok__law_draw T) (hr.mono (by first | decide | omega)) (by rfl) T.f__law_draw.g T.f__law_draw.F.kp T.f__law_draw.b .nil pass0 (pa_cons (pv 0) (pa_cons (pv 2) pa_nil)))) pa_nil))))
      (pss_cons (ps_set (i := 7) sc__law_hand.nd rfl (.inl rfl) (pe_ix (ix_seqK K) (pe_lst (pa_cons pe_strL (pa_cons pe_strL (pa_cons pe_strL (pa_cons pe_strL (pa_cons pe_strL (pa_cons pe_strL (pa_cons pe_strL (pa_cons pe_strL pa_nil))))))))) (pe_call (ok__law_draw T) (hr.mono (by first | decide | omega)) (by rfl) T.f__law_draw.g T.f__law_draw.F.kp T.f__law_draw.b .nil pass0 (pa_cons (pv 0) (pa_cons pe_int pa_nil))) (fun _ _ => rfl)))
      (pss_one (ps_if (pt_cmpR op_gt (pv 4) pe_int (nomark _)) (pss_cons (ps_expr (pe_bmK K PySem.F.plainAttrs_list PySem.F.slot_list_append PySem.F.type_list_append mt_append (pv 3) (pa_cons (pe_tup (pa_cons (pv 7) (pa_cons (pv 6) pa_nil))) pa_nil)))
      (pss_cons (ps_if (pt_cmpR (q_eqA K hr.units) (pv 7) pe_strL (nomark _)) (pss_one (ps_asg (pe_tup (pa_cons (pv 7) (pa_cons (pe_slice sl_str (pe_op (q_addA K) (pe_call (ok__law_word T) (hr.mono (by first | decide | omega)) (by rfl) T.f__law_word.g T.f__law_word.F.kp T.f__law_word.b .nil pass0 (pa_cons (pv 0) (pa_cons (pv 6) pa_nil))) (pe_op op_mul_str pe_strL pe_int)) po_none (po_some (pv 6))) pa_nil))) (pg_sub (pv 3) (pe_un un_neg pe_int) set_list))) pss_nil)
      (pss_cons (ps_if (pt_cmpR (q_eqA K hr.units) (pv 7) pe_strL (nomark _)) (pss_one (ps_asg (pe_tup (pa_cons (pv 7) pa_nil)) (pg_sub (pv 3) (pe_un un_neg pe_int) set_list))) pss_nil)
      (pss_one (ps_set (i := 4) sc__law_hand.nd rfl (.inl rfl) (pe_op op_sub (pv 4) (pe_ifExp (pt_cmpR (q_eqA K hr.units) (pv 7) pe_strL (nomark _)) pe_int (pv 6)))))))) pss_nil)))))
      (pss_one (ps_ret (pv 3)))))), _, inferInstance, fun ws C Q X h => ?_⟩)
  · obtain ⟨b, most, wide, rfl, _⟩ := h
    rfl
  obtain ⟨b, most, wide, rfl, hb, hm, hw1, hw, q⟩ := h
  have cb := hb.lt
  walk_at "dw"
  refine newL_o ?_
  walk_at "dw"
  refine ⟨b, (most : Int) + 1, rfl, hb.app _, by omega, by omega, fun u C1 hu b1 => ?_⟩
  dsimp only
  refine ⟨⟨by omega, by omega⟩, ?_⟩
  rw [show ((u : Nat) : Int).toNat = u from Int.toNat_natCast u]
  have b01 : STo b C C1 := ⟨(But.refl.new _).trans b1.but, b1.spr⟩
  have f1 := b1.at (Nat.ne_of_gt cb) (last_at (C := C) (c := .lst []))
  refine DFor.range (fun i ρ C' => ∃ (ks : List Ky) (rm : Nat) (y5 y6 y7 : Option W), ρ = [some (.o b), some (.d (.int most)), some (.d (.int wide)), some (.o C.length), some (.d (.int rm)), y5, y6, y7] ∧ STo b C C' ∧ C'[C.length]? = some (.lst ((ks.map kyT).map W.d)) ∧ (∀ k ∈ ks, k.ok) ∧ hwt ks + rm ≤ 60 ∧ ks.length ≤ i ∧ hwt ks ≤ i * wide) ⟨[], 60, _, _, _, rfl, b01, f1, (fun k hk => nomatch hk), Nat.le_refl _, Nat.le_refl _, Nat.zero_le _⟩ ?_ ?_
  · rintro ρ C2 ⟨ks, rm, y5, y6, y7, rfl, b2, f2, ok, wt, hl, hv⟩
    walk_at "dw"
    refine ret.sprL cb b2 (Nat.le_refl _) f2 fun C3 b3 => ?_
    exact q ks C3 ⟨ok, by omega⟩ (by omega) (Nat.le_trans hv (Nat.mul_le_mul_right _ (by omega))) b3
  · rintro i ρ C2 hi ⟨ks, rm, y5, y6, y7, rfl, b2, f2, ok, wt, hl, hv⟩
    walk_at "dw"
    refine ⟨b, wide, rfl, b2.spr, by omega, by omega, fun r1 C3 hr1 b3 => ?_⟩
    walk_at "dw"
    refine newL_f (ds := [.str (cd "left"), .str (cd "right"), .str (cd "strike"), .str (cd "rub"), .str (cd "copy"), .str (cd "cut"), .str (cd "write"), .str (cd "paste")]) rfl ?_
    refine ⟨b, 8, rfl, b3.spr, by decide, by decide, fun r2 C4 hr2 b4 => ?_⟩
    obtain ⟨x, hx, hxm⟩ := atI_lt (xs := [Dt.str (cd "left"), .str (cd "right"), .str (cd "strike"), .str (cd "rub"), .str (cd "copy"), .str (cd "cut"), .str (cd "write"), .str (cd "paste")]) (show r2 < 8 by omega)
    have hcl : ∃ z, x = .str z ∧ (z = cd "write" ∨ z = cd "paste" ∨ (z ≠ cd "write" ∧ z ≠ cd "paste" ∧ ∀ n : Nat, 1 ≤ n → ∃ k : Ky, kyT k = .tup [.str z, .int (n : Nat)] ∧ k.ok ∧ k.wt = n)) := by
      simp only [List.mem_cons, List.not_mem_nil, or_false] at hxm
      rcases hxm with rfl | rfl | rfl | rfl | rfl | rfl | rfl | rfl
      · exact ⟨_, rfl, .inr (.inr ⟨by decide +kernel, by decide +kernel, fun n hn => ⟨.left n, rfl, hn, rfl⟩⟩)⟩
      · exact ⟨_, rfl, .inr (.inr ⟨by decide +kernel, by decide +kernel, fun n hn => ⟨.right n, rfl, hn, rfl⟩⟩)⟩
      · exact ⟨_, rfl, .inr (.inr ⟨by decide +kernel, by decide +kernel, fun n hn => ⟨.strike n, rfl, hn, rfl⟩⟩)⟩
      · exact ⟨_, rfl, .inr (.inr ⟨by decide +kernel, by decide +kernel, fun n hn => ⟨.rub n, rfl, hn, rfl⟩⟩)⟩
      · exact ⟨_, rfl, .inr (.inr ⟨by decide +kernel, by decide +kernel, fun n hn => ⟨.copy n, rfl, hn, rfl⟩⟩)⟩
      · exact ⟨_, rfl, .inr (.inr ⟨by decide +kernel, by decide +kernel, fun n hn => ⟨.cut n, rfl, hn, rfl⟩⟩)⟩
      · exact ⟨_, rfl, .inl rfl⟩
      · exact ⟨_, rfl, .inr (.inl rfl)⟩
    obtain ⟨z, rfl, hz⟩ := hcl
    have b24 := b2.trans (b3.trans b4)
    have f4 := b4.at (Nat.ne_of_gt cb) (b3.at (Nat.ne_of_gt cb) f2)
    obtain ⟨mn, hmn, mn1⟩ : ∃ mn : Nat, iMin (rm : Int) (1 + (r1 : Int)) = mn ∧ (mn = min rm (1 + r1)) := ⟨min rm (1 + r1), by unfold iMin; split <;> omega, rfl⟩
    walk_at "dw"
    rw [hx, hmn]
    walk_at "dw"
    refine iteB (fun e0 => ?_) (fun e0 => ?_)
    · have hrm : 0 < rm := by have := of_decide_eq_true e0; omega
      have hm1 : 1 ≤ mn := by omega
      have hm2 : mn ≤ rm := by omega
      rw [f4]
      dsimp only
      refine ⟨rfl, by rw [List.length_map, List.length_map]; omega, ?_⟩
      have lk : ∀ x : Dt, (C4.set C.length (Cell.lst ((ks.map kyT).map W.d ++ [W.d x])))[C.length]? = some (Cell.lst ((ks.map kyT).map W.d ++ [W.d x])) := fun x => set_at f4
      have hcl : C.length < C4.length := lt_at f4
      have fin : ∀ (k : Ky) (C6 : Cs) (m : Nat) (y5 y6 y7 : Option W), STo b C C6 → C6[C.length]? = some (Cell.lst ((ks.map kyT).map W.d ++ [W.d (kyT k)])) → k.ok → k.wt = m → m ≤ rm → m ≤ wide → ∃ (ks' : List Ky) (rm' : Nat) (z5 z6 z7 : Option W), [some (W.o b), some (.d (.int most)), some (.d (.int wide)), some (.o C.length), some (.d (.int ((rm : Int) - (m : Int)))), y5, y6, y7] = [some (W.o b), some (.d (.int most)), some (.d (.int wide)), some (.o C.length), some (.d (.int rm')), z5, z6, z7] ∧ STo b C C6 ∧ C6[C.length]? = some (.lst ((ks'.map kyT).map W.d)) ∧ (∀ k ∈ ks', k.ok) ∧ hwt ks' + rm' ≤ 60 ∧ ks'.length ≤ i + 1 ∧ hwt ks' ≤ (i + 1) * wide := fun k C6 m y5 y6 y7 b6 f6 ko kw km kv => by
        refine ⟨ks ++ [k], rm - m, y5, y6, y7, by rw [show (rm : Int) - (m : Int) = ((rm - m : Nat) : Int) by omega], b6, by rw [f6, List.map_append, List.map_append]; rfl, fun k' hk' => ?_, ?_, by rw [List.length_append, List.length_singleton]; omega, ?_⟩
        · rcases List.mem_append.mp hk' with h | h
          · exact ok k' h
          · rw [List.mem_singleton.mp h]
            exact ko
        · rw [hwt_app, hwt_cons]
          show hwt ks + (k.wt + 0) + (rm - m) ≤ 60
          omega
        · rw [hwt_app, hwt_cons, Nat.add_mul, Nat.one_mul]
          show hwt ks + (k.wt + 0) ≤ _
          omega
      rcases hz with rfl | rfl | ⟨hz1, hz2, hz⟩
      · rw [if_pos (decide_eq_true rfl)]
        refine ⟨b, mn, rfl, b24.spr.off (Nat.ne_of_gt cb), hm1, by omega, fun z C5 z1 z2 zp b5 => ⟨60, rfl, by decide, by decide, ?_⟩⟩
        have f5 := b5.at (Nat.ne_of_gt cb) (lk _)
        obtain ⟨xs, hxs⟩ : ∃ t : List Nat, t = (List.replicate 60 (cd "x")).flatten := ⟨_, rfl⟩
        have xl : xs.length = 60 := by rw [hxs]; decide +kernel
        have xp : Plain xs := by rw [hxs]; unfold Plain; decide +kernel
        rw [← hxs]
        walk_at "dw"
        refine ⟨by rw [List.length_append]; omega, ?_⟩
        rw [f5]
        dsimp only
        rw [setI_end]
        dsimp only
        have e3 : List.take (HT.sIx (z ++ xs).length (z ++ xs).length (some (mn : Int)) - HT.sIx (z ++ xs).length 0 none) (List.drop (HT.sIx (z ++ xs).length 0 none) (z ++ xs)) = (z ++ xs).take mn := by
          rw [HT.sIx_none, HT.sIx_nat, List.drop_zero, Nat.sub_zero, Nat.min_eq_left (by rw [List.length_append]; omega)]
        rw [e3, if_neg (by rw [decide_eq_false (by decide +kernel)]; exact Bool.false_ne_true), if_neg (by rw [decide_eq_false (by decide +kernel)]; exact Bool.false_ne_true)]
        have yl : ((z ++ xs).take mn).length = mn := by rw [List.length_take, List.length_append]; omega
        have yp : Plain ((z ++ xs).take mn) := by
          unfold Plain at zp xp ⊢
          rw [List.all_eq_true] at zp xp ⊢
          intro c hc
          rcases List.mem_append.mp (List.mem_of_mem_take hc) with h | h
          · exact zp c h
          · exact xp c h
        generalize (z ++ xs).take mn = y at yl yp
        have b6 := (b24.mut (Nat.le_refl _) cb _).trans b5
        exact fin (.write y) _ mn _ _ _ (b6.mut (Nat.le_refl _) cb _) (by rw [set_at f5]; rfl) ⟨by intro e; rw [e] at yl; simp at yl; omega, by omega, yp⟩ yl hm2 (by omega)
      · rw [if_neg (by rw [decide_eq_false (by decide +kernel)]; exact Bool.false_ne_true), if_pos (decide_eq_true rfl), lk]
        dsimp only
        rw [setI_end]
        dsimp only
        rw [if_pos (decide_eq_true rfl)]
        have e4 : (rm : Int) - 1 = (rm : Int) - ((1 : Nat) : Int) := rfl
        rw [e4]
        exact fin .paste _ 1 _ _ _ (b24.mut (Nat.le_refl _) cb _) (lk _) trivial rfl (by omega) (by omega)
      · rw [if_neg (by rw [decide_eq_false hz1]; exact Bool.false_ne_true), if_neg (by rw [decide_eq_false hz2]; exact Bool.false_ne_true), if_neg (by rw [decide_eq_false hz2]; exact Bool.false_ne_true)]
        obtain ⟨k, hk, ko, kw⟩ := hz mn hm1
        exact fin k _ mn _ _ _ (b24.mut (Nat.le_refl _) cb _) (by rw [lk, hk]) ko kw hm2 (by omega)
    · have hrm : rm = 0 := by have := of_decide_eq_false e0; omega
      exact ⟨ks, rm, _, _, _, rfl, b24, f4, ok, wt, by omega, Nat.le_trans hv (Nat.mul_le_mul_right _ (by omega))⟩

/-! ## lists all through -/
theorem fn_noneD {k : Nat} {f : Addr} {fd : FuncData} {ps : List Str} : FnOk P w K mg base CX0 k f fd ps (lft K fun _ _ _ _ => False) :=
  ⟨fun vs H Q E h => by
    obtain ⟨ws, C, ad, Qd, Xd, _, _, h, _⟩ := h
    exact h.elim, fun A outer s H args us vs Q E _ _ _ _ h => by
    obtain ⟨ws, C, ad, Qd, Xd, _, _, h, _⟩ := h
    exact h.elim⟩
def spListsD (n : Nat) : SpD := fun ws C Q _ => ∃ d, ws = [.d d] ∧ deep d < n ∧ bulk d ≤ 300000 ∧ Q (.d (norm d)) C

/-! ## a thing handed as another one -/
def spHandedD : SpD := fun ws C Q _ => ∃ (b : Nat) (d : Dt), ws = [.o b, .d d] ∧ Sprg C b ∧ isRow d = true ∧ deep d ≤ 2 ∧ bulk d ≤ 200000 ∧ ∀ e C', norm e = norm d → STo b C C' → Q (.d e) C'
theorem normL {d : Dt} (h : isRow d = true) : norm d = .lst (d.items.map norm) := by
  cases d with
  | lst ds => simp only [norm, Dt.items, normAll_map]
  | tup ds => simp only [norm, Dt.items, normAll_map]
  | _ => cases h

/-! ## the law's own table -/
def tabT (ks : List Ky) (L R c : Nat) : Dt := .tup [.lst (tabD ks L R c).l, .lst (tabD ks L R c).r, .lst (tabD ks L R c).c]
theorem tabL_size {ks : List Ky} (gk : GoodH ks) {L R c : Nat} (hL : L ≤ 200) (hR : R ≤ 200) (hc : c ≤ 60) : ∀ {i : Nat}, i ≤ ks.length → (kst ks (sid0 L R c) i).l.length + (kst ks (sid0 L R c) i).r.length ≤ 400 + 60 * i ∧ (kst ks (sid0 L R c) i).c.length ≤ 60
  | 0, _ => by
    show (rowD (cd "left") L).reverse.length + (rowD (cd "right") R).reverse.length ≤ _ ∧ (rowD (cd "clip") c).length ≤ 60
    rw [List.length_reverse, List.length_reverse, rowD_len, rowD_len, rowD_len]
    omega
  | i + 1, h => by
    obtain ⟨h1, h2⟩ := tabL_size gk hL hR hc (i := i) (by omega)
    have hk : ks[i]? = some ks[i] := List.getElem?_eq_getElem (by omega)
    have hw := Nat.le_trans (hwt_mem (List.mem_of_getElem? hk)) gk.2
    have h3 := kstep_size (i := i) (l := (kst ks (sid0 L R c) i).l) (r := (kst ks (sid0 L R c) i).r) hw h2
    unfold kst
    rw [hk]
    dsimp only
    omega
theorem cutW_toG {xs : List W} {k : Nat} : cutW xs none (some (k : Int)) = xs.take k := by
  unfold cutW
  rw [HT.sIx_none, HT.sIx_nat xs.length xs.length k, List.drop_zero, Nat.sub_zero]
  by_cases h : k ≤ xs.length
  · rw [Nat.min_eq_left h]
  · rw [Nat.min_eq_right (by omega), List.take_length, List.take_of_length_le (by omega)]
theorem cutW_fromG {xs : List W} {k : Nat} : cutW xs (some (k : Int)) none = xs.drop k := by
  unfold cutW
  rw [HT.sIx_none, HT.sIx_nat xs.length 0 k]
  by_cases h : k ≤ xs.length
  · rw [Nat.min_eq_left h, List.take_of_length_le (by rw [List.length_drop]; exact Nat.le_refl _)]
  · rw [Nat.min_eq_right (by omega), Nat.sub_self, List.take_zero, List.drop_of_length_le (by omega)]
def spTabL : SpD := fun ws C Q _ => ∃ (ks : List Ky) (L R c : Nat), ws = [.d (dH ks), .d (.int L), .d (.int R), .d (.int c)] ∧ GoodH ks ∧ L ≤ 200 ∧ R ≤ 200 ∧ c ≤ 60 ∧ Q (.d (tabT ks L R c)) C
theorem ok__law_table (T : Txt K mg w) : FnOk P w K mg base CX0 1 T.f__law_table.f T.f__law_table.fd ["hand", "left", "right", "held"] (lft K spTabL) := by
  refine okD T.f__law_table.F sc__law_table (fun ws C Q X h => ?_) (fun cv A out s H E hr => ⟨_, (pss_cons (ps_par (i := 4) (j := 5) (by rfl) sc__law_table.nd rfl rfl (by decide) rfl rfl (pa_cons (pe_lcK [10] (pe_lc (own := [("at", 10)]) rfl sc__law_table.nd (pi_range1 (by rfl) T.b_range (pa_cons (pv 1) pa_nil)) (blkOk_by (own := [("at", 10)]) (N := N__law_table) (sc := defScope s__law_table) (by decide +kernel)) (fun _ _ _ _ _ => (pg_name (i := 10) sc__law_table.nd rfl (.inl rfl))) (fun _ _ _ _ _ => pts_nil) (fun _ _ _ _ _ => (pe_tup (pa_cons pe_strL (pa_cons (pv 10) pa_nil)))))) (pa_cons (pe_lcK [10] (pe_lc (own := [("at", 10)]) rfl sc__law_table.nd (pi_range1 (by rfl) T.b_range (pa_cons (pv 2) pa_nil)) (blkOk_by (own := [("at", 10)]) (N := N__law_table) (sc := defScope s__law_table) (by decide +kernel)) (fun _ _ _ _ _ => (pg_name (i := 10) sc__law_table.nd rfl (.inl rfl))) (fun _ _ _ _ _ => pts_nil) (fun _ _ _ _ _ => (pe_tup (pa_cons pe_strL (pa_cons (pv 10) pa_nil)))))) pa_nil)) (by rfl))
      (pss_cons (ps_lcK [10] (ps_setLc (i := 6) (own := [("at", 10)]) rfl sc__law_table.nd rfl rfl (sw_true rfl rfl rfl (by decide +kernel)) (pi_range1 (by rfl) T.b_range (pa_cons (pv 3) pa_nil)) (blkOk_by (own := [("at", 10)]) (N := N__law_table) (sc := defScope s__law_table) (by decide +kernel)) (fun _ _ _ _ _ => (pg_name (i := 10) sc__law_table.nd rfl (.inl rfl))) (fun _ _ _ _ _ => pts_nil) (fun _ _ _ _ _ => (pe_tup (pa_cons pe_strL (pa_cons (pv 10) pa_nil))))))
      (pss_cons (ps_for PassesOwn.never rfl (pi_range1 (by rfl) T.b_range (pa_cons (pe_callB (call_lenK K) (by rfl) T.b_len (by decide +kernel) (pa_cons (pv 0) pa_nil)) pa_nil)) (pg_name (i := 7) sc__law_table.nd rfl (.inr rfl))
        (pss_cons (ps_set (i := 8) sc__law_table.nd rfl (.inl rfl) (pe_ix (ix_seqK K) (pv 0) (pv 7) (fun _ _ => rfl)))
      (pss_cons (ps_set (i := 9) sc__law_table.nd rfl (.inl rfl) (pe_ifExp (pt_cmpR (q_in K) (pe_ix (ix_seqK K) (pv 8) pe_int (fun _ _ => rfl)) (pe_lst (pa_cons pe_strL (pa_cons pe_strL pa_nil))) (by rfl)) pe_int (pe_ix (ix_seqK K) (pv 8) pe_int (fun _ _ => rfl))))
      (pss_one (ps_if (pt_cmpR (q_eqA K hr.units) (pe_ix (ix_seqK K) (pv 8) pe_int (fun _ _ => rfl)) pe_strL (nomark _)) (pss_one (ps_set (i := 4) sc__law_table.nd rfl (.inl rfl) (pe_op (q_addA K) (pe_revLK K (pe_lcK [10] (pe_lc (own := [("at", 10)]) rfl sc__law_table.nd (pi_range1 (by rfl) T.b_range (pa_cons (pe_callB (call_lenK K) (by rfl) T.b_len (by decide +kernel) (pa_cons (pe_ix (ix_seqK K) (pv 8) pe_int (fun _ _ => rfl)) pa_nil)) pa_nil)) (blkOk_by (own := [("at", 10)]) (N := N__law_table) (sc := defScope s__law_table) (by decide +kernel)) (fun _ _ _ _ _ => (pg_name (i := 10) sc__law_table.nd rfl (.inl rfl))) (fun _ _ _ _ _ => pts_nil) (fun _ _ _ _ _ => (pe_tup (pa_cons pe_strL (pa_cons (pv 7) (pa_cons (pv 10) pa_nil)))))))) (pv 4)))) (pss_one (ps_if (pt_cmpR (q_eqA K hr.units) (pe_ix (ix_seqK K) (pv 8) pe_int (fun _ _ => rfl)) pe_strL (nomark _)) (pss_one (ps_set (i := 4) sc__law_table.nd rfl (.inl rfl) (pe_op (q_addA K) (pe_revLK K (pv 6)) (pv 4)))) (pss_one (ps_if (pt_cmpR (q_eqA K hr.units) (pe_ix (ix_seqK K) (pv 8) pe_int (fun _ _ => rfl)) pe_strL (nomark _)) (pss_one (ps_par (i := 4) (j := 5) (by rfl) sc__law_table.nd rfl rfl (by decide) rfl rfl (pa_cons (pe_slice (sl_listK (K := K)) (pv 4) (po_some (pv 9)) po_none) (pa_cons (pe_op (q_addA K) (pe_revLK K (pe_slice (sl_listK (K := K)) (pv 4) po_none (po_some (pv 9)))) (pv 5)) pa_nil)) (by rfl))) (pss_one (ps_if (pt_cmpR (q_eqA K hr.units) (pe_ix (ix_seqK K) (pv 8) pe_int (fun _ _ => rfl)) pe_strL (nomark _)) (pss_one (ps_par (i := 4) (j := 5) (by rfl) sc__law_table.nd rfl rfl (by decide) rfl rfl (pa_cons (pe_op (q_addA K) (pe_revLK K (pe_slice (sl_listK (K := K)) (pv 5) po_none (po_some (pv 9)))) (pv 4)) (pa_cons (pe_slice (sl_listK (K := K)) (pv 5) (po_some (pv 9)) po_none) pa_nil)) (by rfl))) (pss_one (ps_if (pt_cmpR (q_eqA K hr.units) (pe_ix (ix_seqK K) (pv 8) pe_int (fun _ _ => rfl)) pe_strL (nomark _)) (pss_one (ps_set (i := 4) sc__law_table.nd rfl (.inl rfl) (pe_slice (sl_listK (K := K)) (pv 4) (po_some (pv 9)) po_none))) (pss_cons (ps_set (i := 6) sc__law_table.nd rfl (.inl rfl) (pe_ifExp (pt_cmpR (q_eqA K hr.units) (pe_ix (ix_seqK K) (pv 8) pe_int (fun _ _ => rfl)) pe_strL (nomark _)) (pv 6) (pe_slice (sl_listK (K := K)) (pv 5) po_none (po_some (pv 9)))))
      (pss_one (ps_set (i := 5) sc__law_table.nd rfl (.inl rfl) (pe_ifExp (pt_cmpR (q_eqA K hr.units) (pe_ix (ix_seqK K) (pv 8) pe_int (fun _ _ => rfl)) pe_strL (nomark _)) (pv 5) (pe_slice (sl_listK (K := K)) (pv 5) (po_some (pv 9)) po_none))))))))))))))))))
      (pss_one (ps_ret (pe_tup (pa_cons (pv 4) (pa_cons (pv 5) (pa_cons (pv 6) pa_nil))))))))), _, inferInstance, fun ws C Q X h => ?_⟩)
  · obtain ⟨ks, L, R, c, rfl, _⟩ := h
    rfl
  obtain ⟨ks, L, R, c, rfl, gk, hL, hR, hc, q⟩ := h
  have fw := gk.few
  walk_at "dw"
  have tN : ∀ n : Nat, ((n : Nat) : Int).toNat = n := fun n => Int.toNat_natCast n
  have row : ∀ (z : List Nat) (n : Nat), (List.range n).map (fun (a : Nat) => Dt.tup [.str z, .int (a : Nat)]) = rowD z n := fun _ _ => rfl
  have z0 : ∀ a : Nat, (0 : Int) + (a : Nat) = (a : Nat) := fun a => Int.zero_add _
  refine ⟨⟨by omega, by omega⟩, ?_⟩
  rw [tN]
  refine DLc.pure L (fun a => .d (.int (0 + a))) (fun (a : Nat) => .tup [.str (cd "left"), .int (a : Nat)]) (by omega) (fun a C => itRng_if a C) (fun a acc X S ha hX => ?_) ?_
  · walk_at "dw"
    rw [z0]
    exact hX
  refine ⟨⟨by omega, by omega⟩, ?_⟩
  rw [tN]
  refine DLc.pure R (fun a => .d (.int (0 + a))) (fun (a : Nat) => .tup [.str (cd "right"), .int (a : Nat)]) (by omega) (fun a C => itRng_if a C) (fun a acc X S ha hX => ?_) ?_
  · walk_at "dw"
    rw [z0]
    exact hX
  refine ⟨⟨by omega, by omega⟩, ?_⟩
  rw [tN]
  refine DLc.pure c (fun a => .d (.int (0 + a))) (fun (a : Nat) => .tup [.str (cd "clip"), .int (a : Nat)]) (by omega) (fun a C => itRng_if a C) (fun a acc X S ha hX => ?_) ?_
  · walk_at "dw"
    rw [z0]
    exact hX
  rw [row, row, row]
  rw [show lenW C (W.d (dH ks)) = some ks.length from by show some _ = _; rw [List.length_map]]
  dsimp only
  refine ⟨⟨by omega, by omega⟩, ?_⟩
  rw [tN]
  refine DFor.range (fun i ρ C' => C' = C ∧ ∃ y7 y8 y9 y10 : Option W, ρ = [some (.d (dH ks)), some (.d (.int L)), some (.d (.int R)), some (.d (.int c)), some (.d (.lst (kst ks (sid0 L R c) i).l.reverse)), some (.d (.lst (kst ks (sid0 L R c) i).r.reverse)), some (.d (.lst (kst ks (sid0 L R c) i).c)), y7, y8, y9, y10]) ⟨rfl, _, _, _, _, by show _ = [_, _, _, _, some (W.d (Dt.lst (rowD (cd "left") L).reverse.reverse)), some (W.d (Dt.lst (rowD (cd "right") R).reverse.reverse)), _, _, _, _, _]; rw [List.reverse_reverse, List.reverse_reverse]; rfl⟩ ?_ ?_
  · rintro ρ C' ⟨rfl, y7, y8, y9, y10, rfl⟩
    walk_at "dw"
    exact ret.same q
  · rintro i ρ C' hi ⟨rfl, y7, y8, y9, y10, rfl⟩
    have hk : ks[i]? = some ks[i] := List.getElem?_eq_getElem hi
    have hsz := tabL_size gk hL hR hc (Nat.le_of_lt hi)
    have hkx : ixW C' (.d (dH ks)) (.d (.int (i : Int))) = some (.d (kyT ks[i])) := ixW_row rfl (at_ofA rfl (by show (ks.map kyT)[i]? = _; rw [List.getElem?_map, hk]; rfl))
    have hko := gk.ok _ (List.mem_of_getElem? hk)
    have hst : kst ks (sid0 L R c) (i + 1) = ⟨(kstep ks[i] (marksD i ks[i]) (kst ks (sid0 L R c) i).l (kst ks (sid0 L R c) i).r (kst ks (sid0 L R c) i).c).1, (kstep ks[i] (marksD i ks[i]) (kst ks (sid0 L R c) i).l (kst ks (sid0 L R c) i).r (kst ks (sid0 L R c) i).c).2.1, (kstep ks[i] (marksD i ks[i]) (kst ks (sid0 L R c) i).l (kst ks (sid0 L R c) i).r (kst ks (sid0 L R c) i).c).2.2⟩ := by
      conv => lhs; unfold kst
      rw [hk]
    have hw := Nat.le_trans (hwt_mem (List.mem_of_getElem? hk)) gk.2
    rw [hst]
    generalize kst ks (sid0 L R c) i = s at hsz
    generalize ks[i] = k at hkx hko hw
    obtain ⟨l, r, cl⟩ := s
    walk_at "dw"
    rw [z0, hkx]
    have k0 : ∀ (C : Cs) (x : Dt) (j : Int) (y : Dt), isRow x = true → atI x.items j = some y → ixW C (.d x) (.d (.int j)) = some (.d y) := fun C x j y h1 h2 => ixW_row h1 h2
    have hl0 : l.length + r.length ≤ 400 + 60 * i := hsz.1
    have hl1 : l.length + r.length ≤ 4000 := by omega
    have hl2 : cl.length ≤ 60 := hsz.2
    have eN : ∀ (n : Nat) (x : List Dt), x.reverse.take n = nearD n x := fun n x => by unfold nearD; exact List.take_reverse
    have eF : ∀ (n : Nat) (x : List Dt), x.reverse.drop n = (farD n x).reverse := fun n x => by unfold farD; exact List.drop_reverse
    have cT : ∀ (n : Nat) (x : List Dt), cutW (x.reverse.map W.d) none (some (n : Int)) = (nearD n x).map W.d := fun n x => by rw [cutW_toG, ← List.map_take, eN]
    have cF : ∀ (n : Nat) (x : List Dt), cutW (x.reverse.map W.d) (some (n : Int)) none = (farD n x).reverse.map W.d := fun n x => by rw [cutW_fromG, ← List.map_drop, eF]
    have ln : ∀ (n : Nat) (x : List Dt), (nearD n x).length ≤ x.length := fun n x => by unfold nearD; rw [List.length_reverse, List.length_drop]; omega
    have ml : ∀ x : List Dt, (x.map W.d).reverse = x.reverse.map W.d := fun x => (List.map_reverse ..).symm
    have lm : ∀ ds : List Dt, (ds.map W.d).length = ds.length := fun ds => List.length_map ..
    have lr : ∀ ds : List Dt, ds.reverse.length = ds.length := fun ds => List.length_reverse ..
    cases k with
    | write u =>
      have a0 : ∀ C, ixW C (.d (kyT (.write u))) (.d (.int 0)) = some (.d (.str (cd "write"))) := fun C => ixW_row (d := kyT (.write u)) rfl rfl
      have a1 : ∀ C, ixW C (.d (kyT (.write u))) (.d (.int 1)) = some (.d (.str u)) := fun C => ixW_row (d := kyT (.write u)) rfl rfl
      walk_at "dw"
      simp only [a0, a1]
      walk_at "dw"
      refine newL_f (ds := [.str (cd "write"), .str (cd "paste")]) rfl ?_
      walk_at "dw"
      show (if inV (V.str (tx (cd "write"))) [V.str (tx (cd "write")), V.str (tx (cd "paste"))] = true then _ else _)
      rw [show inV (V.str (tx (cd "write"))) [V.str (tx (cd "write")), V.str (tx (cd "paste"))] = true by decide +kernel]
      refine iteT ?_
      have hu : u.length ≤ 60 := hw
      refine iteT ⟨⟨by omega, by omega⟩, ?_⟩
      rw [tN]
      refine DLc.pure u.length (fun a => .d (.int (0 + a))) (fun (a : Nat) => .tup [.str (cd "typed"), .int (i : Nat), .int (a : Nat)]) (by omega) (fun a C => itRng_if a C) (fun a acc X S ha hX => ?_) ?_
      · walk_at "dw"
        rw [z0]
        exact hX
      walk_at "dw"
      rw [ml]
      refine newL_d ?_
      walk_at "dw"
      rw [← List.map_append, ← List.reverse_append]
      exact ⟨by simp only [List.length_reverse, List.length_map, List.length_range]; omega, newL_d ⟨rfl, _, _, _, _, rfl⟩⟩
    | paste =>
      have a0 : ∀ C, ixW C (.d (kyT .paste)) (.d (.int 0)) = some (.d (.str (cd "paste"))) := fun C => ixW_row (d := kyT .paste) rfl rfl
      walk_at "dw"
      simp only [a0]
      walk_at "dw"
      refine newL_f (ds := [.str (cd "write"), .str (cd "paste")]) rfl ?_
      walk_at "dw"
      show (if inV (V.str (tx (cd "paste"))) [V.str (tx (cd "write")), V.str (tx (cd "paste"))] = true then _ else _)
      rw [show inV (V.str (tx (cd "paste"))) [V.str (tx (cd "write")), V.str (tx (cd "paste"))] = true by decide +kernel]
      refine iteT ?_
      first | rw [if_pos (by decide +kernel)] | rw [if_neg (by decide +kernel)]
      first | rw [if_pos (by decide +kernel)] | rw [if_neg (by decide +kernel)]
      walk_at "dw"
      rw [ml]
      refine newL_d ?_
      walk_at "dw"
      rw [← List.map_append, ← List.reverse_append]
      exact ⟨by simp only [List.length_reverse, List.length_map, List.length_range]; omega, newL_d ⟨rfl, _, _, _, _, rfl⟩⟩
    | left n =>
      have a0 : ∀ C, ixW C (.d (kyT (.left n))) (.d (.int 0)) = some (.d (.str (cd "left"))) := fun C => ixW_row (d := kyT (.left n)) rfl rfl
      have a1 : ∀ C, ixW C (.d (kyT (.left n))) (.d (.int 1)) = some (.d (.int (n : Nat))) := fun C => ixW_row (d := kyT (.left n)) rfl rfl
      walk_at "dw"
      simp only [a0, a1]
      walk_at "dw"
      refine newL_f (ds := [.str (cd "write"), .str (cd "paste")]) rfl ?_
      walk_at "dw"
      show (if inV (V.str (tx (cd "left"))) [V.str (tx (cd "write")), V.str (tx (cd "paste"))] = true then _ else _)
      rw [show inV (V.str (tx (cd "left"))) [V.str (tx (cd "write")), V.str (tx (cd "paste"))] = false by decide +kernel]
      refine iteF ?_
      first | rw [if_pos (by decide +kernel)] | rw [if_neg (by decide +kernel)]
      first | rw [if_pos (by decide +kernel)] | rw [if_neg (by decide +kernel)]
      first | rw [if_pos (by decide +kernel)] | rw [if_neg (by decide +kernel)]
      walk_at "dw"
      rw [cF]
      refine newL_d ?_
      rw [cT]
      refine newL_d ?_
      walk_at "dw"
      rw [ml]
      refine newL_d ?_
      walk_at "dw"
      rw [← List.map_append, ← List.reverse_append]
      exact ⟨by have := ln n l; simp only [List.length_reverse]; omega, newL_d ⟨rfl, _, _, _, _, rfl⟩⟩
    | right n =>
      have a0 : ∀ C, ixW C (.d (kyT (.right n))) (.d (.int 0)) = some (.d (.str (cd "right"))) := fun C => ixW_row (d := kyT (.right n)) rfl rfl
      have a1 : ∀ C, ixW C (.d (kyT (.right n))) (.d (.int 1)) = some (.d (.int (n : Nat))) := fun C => ixW_row (d := kyT (.right n)) rfl rfl
      walk_at "dw"
      simp only [a0, a1]
      walk_at "dw"
      refine newL_f (ds := [.str (cd "write"), .str (cd "paste")]) rfl ?_
      walk_at "dw"
      show (if inV (V.str (tx (cd "right"))) [V.str (tx (cd "write")), V.str (tx (cd "paste"))] = true then _ else _)
      rw [show inV (V.str (tx (cd "right"))) [V.str (tx (cd "write")), V.str (tx (cd "paste"))] = false by decide +kernel]
      refine iteF ?_
      first | rw [if_pos (by decide +kernel)] | rw [if_neg (by decide +kernel)]
      first | rw [if_pos (by decide +kernel)] | rw [if_neg (by decide +kernel)]
      first | rw [if_pos (by decide +kernel)] | rw [if_neg (by decide +kernel)]
      first | rw [if_pos (by decide +kernel)] | rw [if_neg (by decide +kernel)]
      walk_at "dw"
      rw [cT]
      refine newL_d ?_
      walk_at "dw"
      rw [ml]
      refine newL_d ?_
      walk_at "dw"
      rw [← List.map_append, ← List.reverse_append]
      refine ⟨by have := ln n r; simp only [List.length_reverse]; omega, newL_d ?_⟩
      rw [cF]
      exact newL_d ⟨rfl, _, _, _, _, rfl⟩
    | rub n =>
      have a0 : ∀ C, ixW C (.d (kyT (.rub n))) (.d (.int 0)) = some (.d (.str (cd "rub"))) := fun C => ixW_row (d := kyT (.rub n)) rfl rfl
      have a1 : ∀ C, ixW C (.d (kyT (.rub n))) (.d (.int 1)) = some (.d (.int (n : Nat))) := fun C => ixW_row (d := kyT (.rub n)) rfl rfl
      walk_at "dw"
      simp only [a0, a1]
      walk_at "dw"
      refine newL_f (ds := [.str (cd "write"), .str (cd "paste")]) rfl ?_
      walk_at "dw"
      show (if inV (V.str (tx (cd "rub"))) [V.str (tx (cd "write")), V.str (tx (cd "paste"))] = true then _ else _)
      rw [show inV (V.str (tx (cd "rub"))) [V.str (tx (cd "write")), V.str (tx (cd "paste"))] = false by decide +kernel]
      refine iteF ?_
      first | rw [if_pos (by decide +kernel)] | rw [if_neg (by decide +kernel)]
      first | rw [if_pos (by decide +kernel)] | rw [if_neg (by decide +kernel)]
      first | rw [if_pos (by decide +kernel)] | rw [if_neg (by decide +kernel)]
      first | rw [if_pos (by decide +kernel)] | rw [if_neg (by decide +kernel)]
      first | rw [if_pos (by decide +kernel)] | rw [if_neg (by decide +kernel)]
      walk_at "dw"
      rw [cF]
      exact newL_d ⟨rfl, _, _, _, _, rfl⟩
    | strike n =>
      have a0 : ∀ C, ixW C (.d (kyT (.strike n))) (.d (.int 0)) = some (.d (.str (cd "strike"))) := fun C => ixW_row (d := kyT (.strike n)) rfl rfl
      have a1 : ∀ C, ixW C (.d (kyT (.strike n))) (.d (.int 1)) = some (.d (.int (n : Nat))) := fun C => ixW_row (d := kyT (.strike n)) rfl rfl
      walk_at "dw"
      simp only [a0, a1]
      walk_at "dw"
      refine newL_f (ds := [.str (cd "write"), .str (cd "paste")]) rfl ?_
      walk_at "dw"
      show (if inV (V.str (tx (cd "strike"))) [V.str (tx (cd "write")), V.str (tx (cd "paste"))] = true then _ else _)
      rw [show inV (V.str (tx (cd "strike"))) [V.str (tx (cd "write")), V.str (tx (cd "paste"))] = false by decide +kernel]
      refine iteF ?_
      first | rw [if_pos (by decide +kernel)] | rw [if_neg (by decide +kernel)]
      first | rw [if_pos (by decide +kernel)] | rw [if_neg (by decide +kernel)]
      first | rw [if_pos (by decide +kernel)] | rw [if_neg (by decide +kernel)]
      first | rw [if_pos (by decide +kernel)] | rw [if_neg (by decide +kernel)]
      first | rw [if_pos (by decide +kernel)] | rw [if_neg (by decide +kernel)]
      walk_at "dw"
      refine iteT ?_
      rw [if_neg (by decide +kernel), cF]
      exact newL_d ⟨rfl, _, _, _, _, rfl⟩
    | copy n =>
      have a0 : ∀ C, ixW C (.d (kyT (.copy n))) (.d (.int 0)) = some (.d (.str (cd "copy"))) := fun C => ixW_row (d := kyT (.copy n)) rfl rfl
      have a1 : ∀ C, ixW C (.d (kyT (.copy n))) (.d (.int 1)) = some (.d (.int (n : Nat))) := fun C => ixW_row (d := kyT (.copy n)) rfl rfl
      walk_at "dw"
      simp only [a0, a1]
      walk_at "dw"
      refine newL_f (ds := [.str (cd "write"), .str (cd "paste")]) rfl ?_
      walk_at "dw"
      show (if inV (V.str (tx (cd "copy"))) [V.str (tx (cd "write")), V.str (tx (cd "paste"))] = true then _ else _)
      rw [show inV (V.str (tx (cd "copy"))) [V.str (tx (cd "write")), V.str (tx (cd "paste"))] = false by decide +kernel]
      refine iteF ?_
      first | rw [if_pos (by decide +kernel)] | rw [if_neg (by decide +kernel)]
      first | rw [if_pos (by decide +kernel)] | rw [if_neg (by decide +kernel)]
      first | rw [if_pos (by decide +kernel)] | rw [if_neg (by decide +kernel)]
      first | rw [if_pos (by decide +kernel)] | rw [if_neg (by decide +kernel)]
      first | rw [if_pos (by decide +kernel)] | rw [if_neg (by decide +kernel)]
      walk_at "dw"
      rw [if_neg (by decide +kernel), cT]
      refine newL_d ?_
      walk_at "dw"
      first | exact ⟨_, _, _, _, rfl⟩ | exact ⟨rfl, _, _, _, _, rfl⟩
    | cut n =>
      have a0 : ∀ C, ixW C (.d (kyT (.cut n))) (.d (.int 0)) = some (.d (.str (cd "cut"))) := fun C => ixW_row (d := kyT (.cut n)) rfl rfl
      have a1 : ∀ C, ixW C (.d (kyT (.cut n))) (.d (.int 1)) = some (.d (.int (n : Nat))) := fun C => ixW_row (d := kyT (.cut n)) rfl rfl
      walk_at "dw"
      simp only [a0, a1]
      walk_at "dw"
      refine newL_f (ds := [.str (cd "write"), .str (cd "paste")]) rfl ?_
      walk_at "dw"
      show (if inV (V.str (tx (cd "cut"))) [V.str (tx (cd "write")), V.str (tx (cd "paste"))] = true then _ else _)
      rw [show inV (V.str (tx (cd "cut"))) [V.str (tx (cd "write")), V.str (tx (cd "paste"))] = false by decide +kernel]
      refine iteF ?_
      first | rw [if_pos (by decide +kernel)] | rw [if_neg (by decide +kernel)]
      first | rw [if_pos (by decide +kernel)] | rw [if_neg (by decide +kernel)]
      first | rw [if_pos (by decide +kernel)] | rw [if_neg (by decide +kernel)]
      first | rw [if_pos (by decide +kernel)] | rw [if_neg (by decide +kernel)]
      first | rw [if_pos (by decide +kernel)] | rw [if_neg (by decide +kernel)]
      walk_at "dw"
      rw [if_neg (by decide +kernel), cT]
      refine newL_d ?_
      walk_at "dw"
      rw [if_neg (by decide +kernel), cF]
      exact newL_d ⟨rfl, _, _, _, _, rfl⟩

/-! ## a turn -/
def turnK (b m : Nat) : List Ky := List.replicate (if 0 < b then 1 else 0) (.right b) ++ [.cut 1] ++ List.replicate (if 0 < b then 1 else 0) (.left b) ++ [.paste] ++ List.replicate (if 1 < b + m then 1 else 0) (.right (b + m - 1)) ++ [.paste, .left (b + m)]
def spTurn : SpD := fun ws C Q _ => ∃ b m : Nat, ws = [.d (.int b), .d (.int m)] ∧ b ≤ 60 ∧ 1 ≤ m ∧ m ≤ 60 ∧ Q (.d (dH (turnK b m))) C
theorem ok__law_turn (T : Txt K mg w) : FnOk P w K mg base CX0 1 T.f__law_turn.f T.f__law_turn.fd ["begun", "many"] (lft K spTurn) := by
  refine okD T.f__law_turn.F sc__law_turn (fun ws C Q X h => ?_) (fun cv A out s H E hr => ⟨_, (pss_cons (ps_set (i := 2) sc__law_turn.nd rfl (.inl rfl) (pe_op (q_addA K) (pe_op (q_addA K) (pe_op (q_addA K) (pe_op op_rep (pe_lst (pa_cons (pe_tup (pa_cons pe_strL (pa_cons (pv 0) pa_nil))) pa_nil)) (pe_callTy q_int1 (by rfl) T.b_int (by decide +kernel) (pa_cons (pe_cmpR op_gt (pv 0) pe_int (nomark _)) pa_nil))) (pe_lst (pa_cons (pe_tup (pa_cons pe_strL (pa_cons pe_int pa_nil))) pa_nil))) (pe_op op_rep (pe_lst (pa_cons (pe_tup (pa_cons pe_strL (pa_cons (pv 0) pa_nil))) pa_nil)) (pe_callTy q_int1 (by rfl) T.b_int (by decide +kernel) (pa_cons (pe_cmpR op_gt (pv 0) pe_int (nomark _)) pa_nil)))) (pe_lst (pa_cons (pe_tup (pa_cons pe_strL pa_nil)) pa_nil))))
      (pss_cons (ps_set (i := 2) sc__law_turn.nd rfl (.inl rfl) (pe_op (q_addA K) (pv 2) (pe_op op_rep (pe_lst (pa_cons (pe_tup (pa_cons pe_strL (pa_cons (pe_op op_sub (pe_op (q_addA K) (pv 0) (pv 1)) pe_int) pa_nil))) pa_nil)) (pe_callTy q_int1 (by rfl) T.b_int (by decide +kernel) (pa_cons (pe_cmpR op_gt (pe_op (q_addA K) (pv 0) (pv 1)) pe_int (nomark _)) pa_nil)))))
      (pss_one (ps_ret (pe_op (q_addA K) (pv 2) (pe_lst (pa_cons (pe_tup (pa_cons pe_strL pa_nil)) (pa_cons (pe_tup (pa_cons pe_strL (pa_cons (pe_op (q_addA K) (pv 0) (pv 1)) pa_nil))) pa_nil)))))))), _, inferInstance, fun ws C Q X h => ?_⟩)
  · obtain ⟨b, m, rfl, _⟩ := h
    rfl
  obtain ⟨b, m, rfl, hb, hm1, hm, q⟩ := h
  have e1 : (if decide ((0 : Int) < (b : Nat)) = true then (1 : Int) else 0) = (((if 0 < b then 1 else 0 : Nat) : Nat) : Int) := by
    by_cases h : 0 < b
    · rw [if_pos (decide_eq_true (by omega)), if_pos h]; rfl
    · rw [if_neg (by rw [decide_eq_false (by omega)]; decide), if_neg h]; rfl
  have e2 : (if decide ((1 : Int) < (b : Nat) + (m : Nat)) = true then (1 : Int) else 0) = (((if 1 < b + m then 1 else 0 : Nat) : Nat) : Int) := by
    by_cases h : 1 < b + m
    · rw [if_pos (decide_eq_true (by omega)), if_pos h]; rfl
    · rw [if_neg (by rw [decide_eq_false (by omega)]; decide), if_neg h]; rfl
  unfold turnK at q
  have t1 : (if 0 < b then 1 else 0 : Nat) ≤ 1 := by split <;> omega
  have t2 : (if 1 < b + m then 1 else 0 : Nat) ≤ 1 := by split <;> omega
  generalize (if 0 < b then 1 else 0 : Nat) = u at e1 q t1
  generalize (if 1 < b + m then 1 else 0 : Nat) = v at e2 q t2
  have rp : ∀ (n : Nat) (k : Ky), (List.replicate n [W.d (kyT k)]).flatten = ((List.replicate n k).map kyT).map W.d := fun n k => by
    rw [List.map_replicate, List.map_replicate]
    induction n with
    | zero => rfl
    | succ n ih => rw [List.replicate_succ, List.flatten_cons, ih, List.replicate_succ]; rfl
  have cat : ∀ (a b : List Ky) (C : Cs) (R : W → Cs → Prop), R (.d (.lst ((a ++ b).map kyT))) C → newL ((a.map kyT).map W.d ++ (b.map kyT).map W.d) C R := fun a b C R h => by
    rw [← List.map_append, ← List.map_append]
    exact newL_d h
  have tN : ∀ n : Nat, ((n : Nat) : Int).toNat = n := fun n => Int.toNat_natCast n
  walk_at "dw"
  rw [e1, e2]
  refine newL_o ?_
  dsimp only
  rw [last_at]
  dsimp only
  rw [tN]
  refine ⟨⟨by omega, by omega, by show 1 * u ≤ _; omega⟩, ?_⟩
  rw [show (List.replicate u [W.d (Dt.tup [Dt.str (cd "right"), Dt.int (b : Nat)])]).flatten = ((List.replicate u (Ky.right b)).map kyT).map W.d from rp u (Ky.right b)]
  refine newL_d ?_
  refine newL_f (ds := [kyT (.cut 1)]) rfl ?_
  walk_at "dw"
  refine ⟨by simp only [List.length_append, List.length_map, List.length_replicate, List.length_cons, List.length_nil]; omega, cat (List.replicate u (Ky.right b)) [.cut 1] _ _ ?_⟩
  refine newL_o ?_
  dsimp only
  rw [last_at]
  dsimp only
  rw [tN]
  refine ⟨⟨by omega, by omega, by show 1 * u ≤ _; omega⟩, ?_⟩
  rw [show (List.replicate u [W.d (Dt.tup [Dt.str (cd "left"), Dt.int (b : Nat)])]).flatten = ((List.replicate u (Ky.left b)).map kyT).map W.d from rp u (Ky.left b)]
  refine newL_d ?_
  walk_at "dw"
  refine ⟨by simp only [List.length_append, List.length_map, List.length_replicate, List.length_cons, List.length_nil]; omega, cat (List.replicate u (Ky.right b) ++ [Ky.cut 1]) (List.replicate u (Ky.left b)) _ _ ?_⟩
  refine newL_f (ds := [kyT .paste]) rfl ?_
  walk_at "dw"
  refine ⟨by simp only [List.length_append, List.length_map, List.length_replicate, List.length_cons, List.length_nil]; omega, cat ((List.replicate u (Ky.right b) ++ [Ky.cut 1]) ++ List.replicate u (Ky.left b)) [.paste] _ _ ?_⟩
  have e5 : (b : Int) + (m : Int) - 1 = ((b + m - 1 : Nat) : Int) := by omega
  have e6 : (b : Int) + (m : Int) = ((b + m : Nat) : Int) := by omega
  rw [e5, e6]
  refine newL_o ?_
  dsimp only
  rw [last_at]
  dsimp only
  rw [tN]
  refine ⟨⟨by omega, by omega, by show 1 * v ≤ _; omega⟩, ?_⟩
  rw [show (List.replicate v [W.d (Dt.tup [Dt.str (cd "right"), Dt.int ((b + m - 1 : Nat) : Int)])]).flatten = ((List.replicate v (Ky.right (b + m - 1))).map kyT).map W.d from rp v (Ky.right (b + m - 1))]
  refine newL_d ?_
  walk_at "dw"
  refine ⟨by simp only [List.length_append, List.length_map, List.length_replicate, List.length_cons, List.length_nil]; omega, cat (((List.replicate u (Ky.right b) ++ [Ky.cut 1]) ++ List.replicate u (Ky.left b)) ++ [Ky.paste]) (List.replicate v (Ky.right (b + m - 1))) _ _ ?_⟩
  refine newL_f (ds := [kyT .paste, kyT (.left (b + m))]) rfl ?_
  walk_at "dw"
  refine ⟨by simp only [List.length_append, List.length_map, List.length_replicate, List.length_cons, List.length_nil]; omega, cat ((((List.replicate u (Ky.right b) ++ [Ky.cut 1]) ++ List.replicate u (Ky.left b)) ++ [Ky.paste]) ++ List.replicate v (Ky.right (b + m - 1))) [.paste, .left (b + m)] _ _ ?_⟩
  rw [List.append_assoc C, List.append_assoc C]
  exact ret.thing q

/-! ## hands that keep letters -/
def kp8 : List (List Ky) := [[.cut 1, .right 2, .paste, .left 2], [.copy 2, .paste, .right 1], [.left 2, .cut 1, .right 1, .paste], [.cut 3, .paste, .paste, .left 3], [.left 3, .copy 3, .right 3, .paste], [.write (cd "ab"), .left 1, .cut 1], [.right 1, .cut 1, .left 1, .paste], [.paste, .rub 1, .copy 1]]
theorem hwt_rep (k : Ky) : ∀ n, hwt (List.replicate n k) = n * k.wt
  | 0 => (Nat.zero_mul _).symm
  | n + 1 => by rw [List.replicate_succ, hwt_cons, hwt_rep k n, Nat.add_mul, Nat.one_mul, Nat.add_comm]
theorem turn_good {b m : Nat} (h1 : 1 ≤ m) : (∀ k ∈ turnK b m, k.ok) ∧ hwt (turnK b m) ≤ 4 * b + 2 * m + 2 := by
  unfold turnK
  constructor
  · intro k hk
    simp only [List.mem_append, List.mem_cons, List.not_mem_nil, or_false] at hk
    rcases hk with ((((hk | rfl) | hk) | rfl) | hk) | rfl | rfl
    · have hb : 0 < b := by
        by_cases h : 0 < b
        · exact h
        · rw [if_neg h] at hk; cases hk
      rw [List.eq_of_mem_replicate hk]
      exact hb
    · exact Nat.le_refl 1
    · have hb : 0 < b := by
        by_cases h : 0 < b
        · exact h
        · rw [if_neg h] at hk; cases hk
      rw [List.eq_of_mem_replicate hk]
      exact hb
    · trivial
    · have hb : 1 < b + m := by
        by_cases h : 1 < b + m
        · exact h
        · rw [if_neg h] at hk; cases hk
      rw [List.eq_of_mem_replicate hk]
      show 1 ≤ b + m - 1
      omega
    · trivial
    · show 1 ≤ b + m
      omega
  · have t1 : (if 0 < b then 1 else 0 : Nat) ≤ 1 := by split <;> omega
    have t2 : (if 1 < b + m then 1 else 0 : Nat) ≤ 1 := by split <;> omega
    generalize (if 0 < b then 1 else 0 : Nat) = u at t1
    generalize (if 1 < b + m then 1 else 0 : Nat) = v at t2
    simp only [hwt_app, hwt_cons, hwt_rep]
    have e1 : u * (Ky.right b).wt ≤ b := by show u * b ≤ b; exact Nat.le_trans (Nat.mul_le_mul_right b t1) (by omega)
    have e2 : u * (Ky.left b).wt ≤ b := by show u * b ≤ b; exact Nat.le_trans (Nat.mul_le_mul_right b t1) (by omega)
    have e3 : v * (Ky.right (b + m - 1)).wt ≤ b + m - 1 := by show v * (b + m - 1) ≤ b + m - 1; exact Nat.le_trans (Nat.mul_le_mul_right _ t2) (by omega)
    have c1 : (Ky.cut 1).wt = 1 := rfl
    have c2 : Ky.paste.wt = 1 := rfl
    have c3 : (Ky.left (b + m)).wt = b + m := rfl
    have c4 : hwt [] = 0 := rfl
    omega
theorem dH_len (ks : List Ky) : (ks.map kyT).length = ks.length := List.length_map ..
theorem add_dH {a b : List Ky} {C : Cs} {R : W → Cs → Prop} (h : a.length + b.length ≤ 1000) (r : R (.d (dH (a ++ b))) C) : dAddA (.d (dH a)) (.d (dH b)) C R := by
  show dAddA (.d (.lst (a.map kyT))) (.d (.lst (b.map kyT))) C R
  walk_at "dw"
  refine ⟨by first | omega | (simp only [List.length_map]; omega), ?_⟩
  rw [← List.map_append, ← List.map_append]
  exact newL_d r
theorem kp8_ok : ∀ h ∈ kp8, GoodH h ∧ hwt h ≤ 20 := by
  intro h hh
  unfold kp8 at hh
  simp only [List.mem_cons, List.not_mem_nil, or_false] at hh
  rcases hh with rfl | rfl | rfl | rfl | rfl | rfl | rfl | rfl
  all_goals
    refine ⟨⟨fun k hk => ?_, by decide⟩, by decide⟩
    simp only [List.mem_cons, List.not_mem_nil, or_false] at hk
    first | (rcases hk with rfl | rfl | rfl | rfl) | (rcases hk with rfl | rfl | rfl)
    all_goals (first | trivial | (show 1 ≤ _; decide) | exact ⟨by decide +kernel, by decide +kernel, by unfold Plain; decide +kernel⟩)
def spKeeper : SpD := fun ws C Q _ => ∃ b : Nat, ws = [.o b] ∧ Sprg C b ∧ ∀ (ks : List Ky) C', GoodH ks → hwt ks ≤ 58 → STo b C C' → Q (.d (dH ks)) C'
theorem ok__law_keeper (T : Txt K mg w) : FnOk P w K mg base CX0 4 T.f__law_keeper.f T.f__law_keeper.fd ["spring"] (lft K spKeeper) := by
  refine okD T.f__law_keeper.F sc__law_keeper (fun ws C Q X h => ?_) (fun cv A out s H E hr => ⟨_, (pss_cons (ps_if (pt_cmpR (q_eqA K hr.units) (pe_call (ok__law_draw T) (hr.mono (by first | decide | omega)) (by rfl) T.f__law_draw.g T.f__law_draw.F.kp T.f__law_draw.b .nil pass0 (pa_cons (pv 0) (pa_cons pe_int pa_nil))) pe_int (nomark _)) (pss_cons (ps_set (i := 1) sc__law_keeper.nd rfl (.inl rfl) (pe_op (q_addA K) pe_int (pe_call (ok__law_draw T) (hr.mono (by first | decide | omega)) (by rfl) T.f__law_draw.g T.f__law_draw.F.kp T.f__law_draw.b .nil pass0 (pa_cons (pv 0) (pa_cons pe_int pa_nil)))))
      (pss_cons (ps_set (i := 2) sc__law_keeper.nd rfl (.inl rfl) (pe_op (q_addA K) (pe_call (ok__law_turn T) (hr.mono (by first | decide | omega)) (by rfl) T.f__law_turn.g T.f__law_turn.F.kp T.f__law_turn.b .nil pass0 (pa_cons pe_int (pa_cons (pv 1) pa_nil))) (pe_call (ok__law_turn T) (hr.mono (by first | decide | omega)) (by rfl) T.f__law_turn.g T.f__law_turn.F.kp T.f__law_turn.b .nil pass0 (pa_cons (pv 1) (pa_cons (pe_op (q_addA K) pe_int (pe_call (ok__law_draw T) (hr.mono (by first | decide | omega)) (by rfl) T.f__law_draw.g T.f__law_draw.F.kp T.f__law_draw.b .nil pass0 (pa_cons (pv 0) (pa_cons pe_int pa_nil)))) pa_nil)))))
      (pss_one (ps_ret (pe_ix (ix_seqK K) (pe_lst (pa_cons (pe_call (ok__law_turn T) (hr.mono (by first | decide | omega)) (by rfl) T.f__law_turn.g T.f__law_turn.F.kp T.f__law_turn.b .nil pass0 (pa_cons pe_int (pa_cons (pe_op (q_addA K) pe_int (pe_call (ok__law_draw T) (hr.mono (by first | decide | omega)) (by rfl) T.f__law_draw.g T.f__law_draw.F.kp T.f__law_draw.b .nil pass0 (pa_cons (pv 0) (pa_cons pe_int pa_nil)))) pa_nil))) (pa_cons (pv 2) pa_nil))) (pe_call (ok__law_draw T) (hr.mono (by first | decide | omega)) (by rfl) T.f__law_draw.g T.f__law_draw.F.kp T.f__law_draw.b .nil pass0 (pa_cons (pv 0) (pa_cons pe_int pa_nil))) (fun _ _ => rfl)))))) pss_nil)
      (pss_cons (ps_set (i := 3) sc__law_keeper.nd rfl (.inl rfl) (pe_lst (pa_cons (pe_lst (pa_cons (pe_tup (pa_cons pe_strL (pa_cons pe_int pa_nil))) (pa_cons (pe_tup (pa_cons pe_strL (pa_cons pe_int pa_nil))) (pa_cons (pe_tup (pa_cons pe_strL pa_nil)) (pa_cons (pe_tup (pa_cons pe_strL (pa_cons pe_int pa_nil))) pa_nil))))) (pa_cons (pe_lst (pa_cons (pe_tup (pa_cons pe_strL (pa_cons pe_int pa_nil))) (pa_cons (pe_tup (pa_cons pe_strL pa_nil)) (pa_cons (pe_tup (pa_cons pe_strL (pa_cons pe_int pa_nil))) pa_nil)))) pa_nil))))
      (pss_cons (ps_expr (pe_bmK K PySem.F.plainAttrs_list PySem.F.slot_list_append PySem.F.type_list_append mt_append (pv 3) (pa_cons (pe_lst (pa_cons (pe_tup (pa_cons pe_strL (pa_cons pe_int pa_nil))) (pa_cons (pe_tup (pa_cons pe_strL (pa_cons pe_int pa_nil))) (pa_cons (pe_tup (pa_cons pe_strL (pa_cons pe_int pa_nil))) (pa_cons (pe_tup (pa_cons pe_strL pa_nil)) pa_nil))))) pa_nil)))
      (pss_cons (ps_expr (pe_bmK K PySem.F.plainAttrs_list PySem.F.slot_list_append PySem.F.type_list_append mt_append (pv 3) (pa_cons (pe_lst (pa_cons (pe_tup (pa_cons pe_strL (pa_cons pe_int pa_nil))) (pa_cons (pe_tup (pa_cons pe_strL pa_nil)) (pa_cons (pe_tup (pa_cons pe_strL pa_nil)) (pa_cons (pe_tup (pa_cons pe_strL (pa_cons pe_int pa_nil))) pa_nil))))) pa_nil)))
      (pss_cons (ps_set (i := 3) sc__law_keeper.nd rfl (.inl rfl) (pe_op (q_addA K) (pv 3) (pe_lst (pa_cons (pe_lst (pa_cons (pe_tup (pa_cons pe_strL (pa_cons pe_int pa_nil))) (pa_cons (pe_tup (pa_cons pe_strL (pa_cons pe_int pa_nil))) (pa_cons (pe_tup (pa_cons pe_strL (pa_cons pe_int pa_nil))) (pa_cons (pe_tup (pa_cons pe_strL pa_nil)) pa_nil))))) (pa_cons (pe_lst (pa_cons (pe_tup (pa_cons pe_strL (pa_cons pe_strL pa_nil))) (pa_cons (pe_tup (pa_cons pe_strL (pa_cons pe_int pa_nil))) (pa_cons (pe_tup (pa_cons pe_strL (pa_cons pe_int pa_nil))) pa_nil)))) pa_nil)))))
      (pss_cons (ps_set (i := 3) sc__law_keeper.nd rfl (.inl rfl) (pe_op (q_addA K) (pv 3) (pe_lst (pa_cons (pe_lst (pa_cons (pe_tup (pa_cons pe_strL (pa_cons pe_int pa_nil))) (pa_cons (pe_tup (pa_cons pe_strL (pa_cons pe_int pa_nil))) (pa_cons (pe_tup (pa_cons pe_strL (pa_cons pe_int pa_nil))) (pa_cons (pe_tup (pa_cons pe_strL pa_nil)) pa_nil))))) (pa_cons (pe_lst (pa_cons (pe_tup (pa_cons pe_strL pa_nil)) (pa_cons (pe_tup (pa_cons pe_strL (pa_cons pe_int pa_nil))) (pa_cons (pe_tup (pa_cons pe_strL (pa_cons pe_int pa_nil))) pa_nil)))) pa_nil)))))
      (pss_cons (ps_set (i := 4) sc__law_keeper.nd rfl (.inl rfl) (pe_ix (ix_seqK K) (pv 3) (pe_call (ok__law_draw T) (hr.mono (by first | decide | omega)) (by rfl) T.f__law_draw.g T.f__law_draw.F.kp T.f__law_draw.b .nil pass0 (pa_cons (pv 0) (pa_cons pe_int pa_nil))) (fun _ _ => rfl)))
      (pss_cons (ps_set (i := 5) sc__law_keeper.nd rfl (.inl rfl) (pe_call (ok__law_hand T) (hr.mono (by first | decide | omega)) (by rfl) T.f__law_hand.g T.f__law_hand.F.kp T.f__law_hand.b .nil pass0 (pa_cons (pv 0) (pa_cons pe_int (pa_cons pe_int pa_nil)))))
      (pss_cons (ps_if (pt_cmpR (q_eqA K hr.units) (pe_call (ok__law_draw T) (hr.mono (by first | decide | omega)) (by rfl) T.f__law_draw.g T.f__law_draw.F.kp T.f__law_draw.b .nil pass0 (pa_cons (pv 0) (pa_cons pe_int pa_nil))) pe_int (nomark _)) (pss_one (ps_set (i := 4) sc__law_keeper.nd rfl (.inl rfl) (pe_op (q_addA K) (pv 4) (pe_ix (ix_seqK K) (pv 3) (pe_call (ok__law_draw T) (hr.mono (by first | decide | omega)) (by rfl) T.f__law_draw.g T.f__law_draw.F.kp T.f__law_draw.b .nil pass0 (pa_cons (pv 0) (pa_cons pe_int pa_nil))) (fun _ _ => rfl))))) pss_nil)
      (pss_one (ps_ret (pe_ix (ix_seqK K) (pe_lst (pa_cons (pv 4) (pa_cons (pe_op (q_addA K) (pv 4) (pv 5)) (pa_cons (pe_op (q_addA K) (pv 5) (pv 4)) (pa_cons (pe_call (ok__law_hand T) (hr.mono (by first | decide | omega)) (by rfl) T.f__law_hand.g T.f__law_hand.F.kp T.f__law_hand.b .nil pass0 (pa_cons (pv 0) (pa_cons pe_int (pa_cons pe_int pa_nil)))) pa_nil))))) (pe_call (ok__law_draw T) (hr.mono (by first | decide | omega)) (by rfl) T.f__law_draw.g T.f__law_draw.F.kp T.f__law_draw.b .nil pass0 (pa_cons (pv 0) (pa_cons pe_int pa_nil))) (fun _ _ => rfl))))))))))))), _, inferInstance, fun ws C Q X h => ?_⟩)
  · obtain ⟨b, rfl, _⟩ := h
    rfl
  obtain ⟨b, rfl, hb, q⟩ := h
  have cb := hb.lt
  walk_at "dw"
  refine ⟨b, 4, rfl, hb, by decide, by decide, fun r C1 hr b1 => ?_⟩
  walk_at "dw"
  refine iteB (fun _ => ?_) (fun _ => ?_)
  · refine ⟨b, 4, rfl, b1.spr, by decide, by decide, fun r2 C2 hr2 b2 => ?_⟩
    walk_at "dw"
    have e1 : (2 : Int) + (r2 : Int) = ((2 + r2 : Nat) : Int) := by omega
    rw [e1]
    have g0 := turn_good (b := 0) (m := 2 + r2) (by omega)
    refine ⟨0, 2 + r2, rfl, by omega, by omega, by omega, b, 11, rfl, b2.spr, by decide, by decide, fun r3 C3 hr3 b3 => ?_⟩
    walk_at "dw"
    have e2 : (1 : Int) + (r3 : Int) = ((1 + r3 : Nat) : Int) := by omega
    rw [e2]
    have g1 := turn_good (b := 2 + r2) (m := 1 + r3) (by omega)
    refine ⟨2 + r2, 1 + r3, rfl, by omega, by omega, by omega, ?_⟩
    walk_at "dw"
    have gg : GoodH (turnK 0 (2 + r2) ++ turnK (2 + r2) (1 + r3)) := ⟨fun k hk => (List.mem_append.mp hk).elim (g0.1 k) (g1.1 k), by rw [hwt_app]; omega⟩
    have gf := gg.few
    rw [List.length_append] at gf
    refine add_dH (by omega) ?_
    have b03 := b1.trans (b2.trans b3)
    refine ⟨b, 27, rfl, b03.spr, by decide, by decide, fun r4 C4 hr4 b4 => ?_⟩
    walk_at "dw"
    have e3 : (1 : Int) + (r4 : Int) = ((1 + r4 : Nat) : Int) := by omega
    rw [e3]
    have g2 := turn_good (b := 0) (m := 1 + r4) (by omega)
    refine ⟨0, 1 + r4, rfl, by omega, by omega, by omega, ?_⟩
    refine newL_f (ds := [dH (turnK 0 (1 + r4)), dH (turnK 0 (2 + r2) ++ turnK (2 + r2) (1 + r3))]) rfl ?_
    refine ⟨b, 2, rfl, (b03.trans b4).spr, by decide, by decide, fun r5 C5 hr5 b5 => ?_⟩
    obtain ⟨x, hx, hxm⟩ := atI_lt (xs := [dH (turnK 0 (1 + r4)), dH (turnK 0 (2 + r2) ++ turnK (2 + r2) (1 + r3))]) (show r5 < 2 by omega)
    walk_at "dw"
    rw [hx]
    have bb := b03.trans (b4.trans b5)
    simp only [List.mem_cons, List.not_mem_nil, or_false] at hxm
    rcases hxm with rfl | rfl
    · exact ret.spr cb bb fun C6 b6 => q _ C6 ⟨g2.1, by omega⟩ (by omega) b6
    · exact ret.spr cb bb fun C6 b6 => q _ C6 gg (by rw [hwt_app]; omega) b6
  · refine newL_f (ds := [kyT (.cut 1), kyT (.right 2), kyT .paste, kyT (.left 2)]) rfl ?_
    refine newL_f (ds := [kyT (.copy 2), kyT .paste, kyT (.right 1)]) rfl ?_
    have setl : ∀ x y : Cell, (C1 ++ [x]).set C1.length y = C1 ++ [y] := fun x y => by rw [List.set_append_right _ _ (Nat.le_refl _), Nat.sub_self]; rfl
    refine newL_o ?_
    walk_at "dw"
    rw [last_at]
    refine ⟨rfl, newL_f (ds := [kyT (.left 2), kyT (.cut 1), kyT (.right 1), kyT .paste]) rfl ?_⟩
    try dsimp only
    rw [last_at]
    dsimp only
    rw [setl, last_at]
    refine ⟨by decide, rfl, newL_f (ds := [kyT (.cut 3), kyT .paste, kyT .paste, kyT (.left 3)]) rfl ?_⟩
    try dsimp only
    rw [last_at]
    dsimp only
    rw [setl]
    refine ⟨by decide, ?_⟩
    walk_at "dw"
    refine newL_f (ds := [kyT (.left 3), kyT (.copy 3), kyT (.right 3), kyT .paste]) rfl ?_
    refine newL_f (ds := [kyT (.write (cd "ab")), kyT (.left 1), kyT (.cut 1)]) rfl ?_
    refine newL_f (ds := [dH [.left 3, .copy 3, .right 3, .paste], dH [.write (cd "ab"), .left 1, .cut 1]]) rfl ?_
    walk_at "dw"
    rw [last_at]
    refine ⟨by decide, newL_f (ds := (kp8.take 6).map dH) rfl ?_⟩
    refine newL_f (ds := [kyT (.right 1), kyT (.cut 1), kyT (.left 1), kyT .paste]) rfl ?_
    refine newL_f (ds := [kyT .paste, kyT (.rub 1), kyT (.copy 1)]) rfl ?_
    refine newL_f (ds := [dH [.right 1, .cut 1, .left 1, .paste], dH [.paste, .rub 1, .copy 1]]) rfl ?_
    walk_at "dw"
    refine ⟨by decide, newL_f (ds := kp8.map dH) rfl ?_⟩
    refine ⟨b, 8, rfl, b1.spr.app _, by decide, by decide, fun r2 C2 hr2 b2 => ?_⟩
    have bx : STo b C C2 := ⟨(b1.but.new _).trans b2.but, b2.spr⟩
    obtain ⟨x, hx, hxm⟩ := atI_lt (xs := kp8.map dH) (show r2 < (kp8.map dH).length by rw [List.length_map]; show r2 < 8; omega)
    obtain ⟨h1, hh1, rfl⟩ := List.mem_map.mp hxm
    obtain ⟨gh1, wh1⟩ := kp8_ok h1 hh1
    walk_at "dw"
    rw [hx]
    refine ⟨b, 3, 3, rfl, bx.spr, by decide, by decide, by decide, fun mo C3 gm lm wm b3 => ?_⟩
    walk_at "dw"
    refine ⟨b, 2, rfl, b3.spr, by decide, by decide, fun r3 C4 hr3 b4 => ?_⟩
    walk_at "dw"
    have bx4 := bx.trans (b3.trans b4)
    have goA : ∀ {a c : List Ky}, GoodH a → GoodH c → hwt a + hwt c ≤ 60 → GoodH (a ++ c) := fun g1 g2 h => ⟨fun k hk => (List.mem_append.mp hk).elim (g1.1 k) (g2.1 k), by rw [hwt_app]; exact h⟩
    have f1 := gh1.few
    have fm := gm.few
    have fin : ∀ (h : List Ky) (Cx : Cs), GoodH h → hwt h ≤ 40 → STo b C Cx → dAddA (.d (dH h)) (.d (dH mo)) Cx fun w C1 => dAddA (.d (dH mo)) (.d (dH h)) C1 fun w_1 C1 => spHandS [W.o b, W.d (Dt.int 9), W.d (Dt.int 4)] C1 (fun w_2 C1 => newL [W.d (dH h), w, w_1, w_2] C1 fun x C1 => spDrawS [W.o b, W.d (Dt.int 4)] C1 (fun y C2 => match ixW C2 x y with | some w => ret C Q w C2 | none => False) X0) X0 := fun h Cx gh wh bC => by
      have fh := gh.few
      refine add_dH (by omega) (add_dH (by omega) ?_)
      refine ⟨b, 9, 4, rfl, bC.spr, by decide, by decide, by decide, fun la C5 gl ll wl b5 => ?_⟩
      refine newL_f (ds := [dH h, dH (h ++ mo), dH (mo ++ h), dH la]) rfl ?_
      refine ⟨b, 4, rfl, b5.spr, by decide, by decide, fun r6 C6 hr6 b6 => ?_⟩
      obtain ⟨x, hx, hxm⟩ := atI_lt (xs := [dH h, dH (h ++ mo), dH (mo ++ h), dH la]) (show r6 < 4 by omega)
      walk_at "dw"
      rw [hx]
      have bb := bC.trans (b5.trans b6)
      simp only [List.mem_cons, List.not_mem_nil, or_false] at hxm
      rcases hxm with rfl | rfl | rfl | rfl
      · exact ret.spr cb bb fun C7 b7 => q _ C7 gh (by omega) b7
      · exact ret.spr cb bb fun C7 b7 => q _ C7 (goA gh gm (by omega)) (by rw [hwt_app]; omega) b7
      · exact ret.spr cb bb fun C7 b7 => q _ C7 (goA gm gh (by omega)) (by rw [hwt_app]; omega) b7
      · exact ret.spr cb bb fun C7 b7 => q _ C7 gl (by omega) b7
    refine iteB (fun _ => ?_) (fun _ => fin h1 C4 gh1 (by omega) bx4)
    refine ⟨b, 8, rfl, bx4.spr, by decide, by decide, fun r7 C5 hr7 b5 => ?_⟩
    obtain ⟨x, hx7, hxm7⟩ := atI_lt (xs := kp8.map dH) (show r7 < (kp8.map dH).length by rw [List.length_map]; show r7 < 8; omega)
    obtain ⟨h2, hh2, rfl⟩ := List.mem_map.mp hxm7
    obtain ⟨gh2, wh2⟩ := kp8_ok h2 hh2
    have f2 := gh2.few
    walk_at "dw"
    rw [hx7]
    refine add_dH (by omega) ?_
    exact fin (h1 ++ h2) C5 (goA gh1 gh2 (by omega)) (by rw [hwt_app]; omega) (bx4.trans b5)

/-! ## the lengths that suffice, found by trying -/
def cutL : List Ky → Ln → Bool
  | [], _ => false
  | k :: ks, s => hitB true k s || hitB false k s || cutL ks (lstep k s)
theorem hitB_fit (b : Bool) (k : Ky) (s : Ln) : hitB b k s = false ↔ fitK b k s := by
  unfold hitB fitK
  cases h : need b k with
  | none => simp
  | some n => simp
theorem cutL_fits : ∀ (ks : List Ky) (s : Ln), cutL ks s = false ↔ fits true ks s ∧ fits false ks s
  | [], _ => by simp [cutL, fits]
  | k :: ks, s => by
    unfold cutL fits
    rw [Bool.or_eq_false_iff, Bool.or_eq_false_iff, cutL_fits ks, hitB_fit, hitB_fit]
    constructor
    · rintro ⟨⟨a, b⟩, c, d⟩; exact ⟨⟨a, c⟩, b, d⟩
    · rintro ⟨⟨a, c⟩, b, d⟩; exact ⟨⟨a, b⟩, c, d⟩
theorem need_wt {b : Bool} {k : Ky} {n : Nat} (h : need b k = some n) : n = k.wt := by
  cases b <;> cases k <;> first | (cases h; rfl) | cases h
theorem lside_step (b : Bool) (k : Ky) (s : Ln) : lside b s ≤ lside b (lstep k s) + k.wt := by
  cases b <;> cases k <;> simp only [lside, lstep, Ky.wt] <;> simp <;> omega
theorem fits_big (b : Bool) : ∀ (ks : List Ky) (s : Ln), hwt ks ≤ lside b s → fits b ks s
  | [], _, _ => trivial
  | k :: ks, s, h => by
    rw [hwt_cons] at h
    have := lside_step b k s
    exact ⟨fun n hn => by have := need_wt hn; omega, fits_big b ks _ (by omega)⟩
theorem fits_left : ∀ (ks : List Ky) (l r r' c : Nat), hwt ks ≤ r → hwt ks ≤ r' → fits true ks ⟨l, r, c⟩ → fits true ks ⟨l, r', c⟩
  | [], _, _, _, _, _, _, _ => trivial
  | k :: ks, l, r, r', c, h1, h2, ⟨f1, f2⟩ => by
    rw [hwt_cons] at h1 h2
    refine ⟨f1, ?_⟩
    cases k with
    | write w => exact fits_left ks (l + w.length) r r' c (by omega) (by omega) f2
    | paste => exact fits_left ks (l + c) r r' c (by omega) (by omega) f2
    | left n => exact fits_left ks (l - n) (r + min n l) (r' + min n l) c (by omega) (by omega) f2
    | right n =>
      have h1 : n + hwt ks ≤ r := h1
      have h2 : n + hwt ks ≤ r' := h2
      have e : lstep (.right n) ⟨l, r, c⟩ = ⟨l + n, r - n, c⟩ := by show Ln.mk (l + min n r) _ _ = _; rw [Nat.min_eq_left (by omega)]
      have e' : lstep (.right n) ⟨l, r', c⟩ = ⟨l + n, r' - n, c⟩ := by show Ln.mk (l + min n r') _ _ = _; rw [Nat.min_eq_left (by omega)]
      rw [e] at f2
      rw [e']
      exact fits_left ks _ _ _ _ (by omega) (by omega) f2
    | strike n =>
      have h1 : n + hwt ks ≤ r := h1
      have h2 : n + hwt ks ≤ r' := h2
      exact fits_left ks l (r - n) (r' - n) c (by omega) (by omega) f2
    | rub n => exact fits_left ks (l - n) r r' c (by omega) (by omega) f2
    | copy n =>
      have h1 : n + hwt ks ≤ r := h1
      have h2 : n + hwt ks ≤ r' := h2
      have e : lstep (.copy n) ⟨l, r, c⟩ = ⟨l, r, n⟩ := by show Ln.mk _ _ (min n r) = _; rw [Nat.min_eq_left (by omega)]
      have e' : lstep (.copy n) ⟨l, r', c⟩ = ⟨l, r', n⟩ := by show Ln.mk _ _ (min n r') = _; rw [Nat.min_eq_left (by omega)]
      rw [e] at f2
      rw [e']
      exact fits_left ks _ _ _ _ (by omega) (by omega) f2
    | cut n =>
      have h1 : n + hwt ks ≤ r := h1
      have h2 : n + hwt ks ≤ r' := h2
      have e : lstep (.cut n) ⟨l, r, c⟩ = ⟨l, r - n, n⟩ := by show Ln.mk _ _ (min n r) = _; rw [Nat.min_eq_left (by omega)]
      have e' : lstep (.cut n) ⟨l, r', c⟩ = ⟨l, r' - n, n⟩ := by show Ln.mk _ _ (min n r') = _; rw [Nat.min_eq_left (by omega)]
      rw [e] at f2
      rw [e']
      exact fits_left ks _ _ _ _ (by omega) (by omega) f2
theorem fits_right : ∀ (ks : List Ky) (l l' r c : Nat), hwt ks ≤ l → hwt ks ≤ l' → fits false ks ⟨l, r, c⟩ → fits false ks ⟨l', r, c⟩
  | [], _, _, _, _, _, _, _ => trivial
  | k :: ks, l, l', r, c, h1, h2, ⟨f1, f2⟩ => by
    rw [hwt_cons] at h1 h2
    refine ⟨f1, ?_⟩
    cases k with
    | write w => exact fits_right ks (l + w.length) (l' + w.length) r c (by omega) (by omega) f2
    | paste => exact fits_right ks (l + c) (l' + c) r c (by omega) (by omega) f2
    | left n =>
      have h1 : n + hwt ks ≤ l := h1
      have h2 : n + hwt ks ≤ l' := h2
      have e : lstep (.left n) ⟨l, r, c⟩ = ⟨l - n, r + n, c⟩ := by show Ln.mk _ (r + min n l) _ = _; rw [Nat.min_eq_left (by omega)]
      have e' : lstep (.left n) ⟨l', r, c⟩ = ⟨l' - n, r + n, c⟩ := by show Ln.mk _ (r + min n l') _ = _; rw [Nat.min_eq_left (by omega)]
      rw [e] at f2
      rw [e']
      exact fits_right ks _ _ _ _ (by omega) (by omega) f2
    | right n => exact fits_right ks (l + min n r) (l' + min n r) (r - n) c (by omega) (by omega) f2
    | strike n => exact fits_right ks l l' (r - n) c (by omega) (by omega) f2
    | rub n =>
      have h1 : n + hwt ks ≤ l := h1
      have h2 : n + hwt ks ≤ l' := h2
      exact fits_right ks (l - n) (l' - n) r c (by omega) (by omega) f2
    | copy n => exact fits_right ks l l' r (min n r) (by omega) (by omega) f2
    | cut n => exact fits_right ks l l' (r - n) (min n r) (by omega) (by omega) f2
theorem fits_both : ∀ (ks : List Ky) (l l1 r r1 c : Nat), hwt ks ≤ l1 → hwt ks ≤ r1 → fits true ks ⟨l, r1, c⟩ → fits false ks ⟨l1, r, c⟩ → fits true ks ⟨l, r, c⟩ ∧ fits false ks ⟨l, r, c⟩
  | [], _, _, _, _, _, _, _, _, _ => ⟨trivial, trivial⟩
  | k :: ks, l, l1, r, r1, c, h1, h2, ⟨f1, f2⟩, ⟨g1, g2⟩ => by
    rw [hwt_cons] at h1 h2
    have key : ∀ (l' l1' r' r1' c' : Nat), lstep k ⟨l, r1, c⟩ = ⟨l', r1', c'⟩ → lstep k ⟨l1, r, c⟩ = ⟨l1', r', c'⟩ → lstep k ⟨l, r, c⟩ = ⟨l', r', c'⟩ → hwt ks ≤ l1' → hwt ks ≤ r1' → fits true (k :: ks) ⟨l, r, c⟩ ∧ fits false (k :: ks) ⟨l, r, c⟩ := by
      intro l' l1' r' r1' c' e1 e2 e3 k1 k2
      rw [e1] at f2
      rw [e2] at g2
      obtain ⟨i1, i2⟩ := fits_both ks l' l1' r' r1' c' k1 k2 f2 g2
      exact ⟨⟨f1, by rw [e3]; exact i1⟩, g1, by rw [e3]; exact i2⟩
    cases k with
    | write w => exact key (l + w.length) (l1 + w.length) r r1 c rfl rfl rfl (by omega) (by omega)
    | paste => exact key (l + c) (l1 + c) r r1 c rfl rfl rfl (by omega) (by omega)
    | left n =>
      have h1 : n + hwt ks ≤ l1 := h1
      have hn : n ≤ l := f1 n rfl
      have e : ∀ a b d, n ≤ a → lstep (.left n) ⟨a, b, d⟩ = ⟨a - n, b + n, d⟩ := fun a b d h => by show Ln.mk _ (b + min n a) _ = _; rw [Nat.min_eq_left h]
      exact key _ _ _ _ _ (e l r1 c hn) (e l1 r c (by omega)) (e l r c hn) (by omega) (by omega)
    | right n =>
      have h2 : n + hwt ks ≤ r1 := h2
      have hn : n ≤ r := g1 n rfl
      have e : ∀ a b d, n ≤ b → lstep (.right n) ⟨a, b, d⟩ = ⟨a + n, b - n, d⟩ := fun a b d h => by show Ln.mk (a + min n b) _ _ = _; rw [Nat.min_eq_left h]
      exact key _ _ _ _ _ (e l r1 c (by omega)) (e l1 r c hn) (e l r c hn) (by omega) (by omega)
    | strike n =>
      have h2 : n + hwt ks ≤ r1 := h2
      exact key l l1 (r - n) (r1 - n) c rfl rfl rfl (by omega) (by omega)
    | rub n =>
      have h1 : n + hwt ks ≤ l1 := h1
      exact key (l - n) (l1 - n) r r1 c rfl rfl rfl (by omega) (by omega)
    | copy n =>
      have h2 : n + hwt ks ≤ r1 := h2
      have hn : n ≤ r := g1 n rfl
      have e : ∀ a b d, n ≤ b → lstep (.copy n) ⟨a, b, d⟩ = ⟨a, b, n⟩ := fun a b d h => by show Ln.mk _ _ (min n b) = _; rw [Nat.min_eq_left h]
      exact key _ _ _ _ _ (e l r1 c (by omega)) (e l1 r c hn) (e l r c hn) (by omega) (by omega)
    | cut n =>
      have h2 : n + hwt ks ≤ r1 := h2
      have hn : n ≤ r := g1 n rfl
      have e : ∀ a b d, n ≤ b → lstep (.cut n) ⟨a, b, d⟩ = ⟨a, b - n, n⟩ := fun a b d h => by show Ln.mk _ _ (min n b) = _; rw [Nat.min_eq_left h]
      exact key _ _ _ _ _ (e l r1 c (by omega)) (e l1 r c hn) (e l r c hn) (by omega) (by omega)
theorem nr_left {ks : List Ky} (gk : GoodH ks) (n : Nat) : fits true ks ⟨n, 99, heldK ks⟩ ↔ nr true ks ≤ n := by
  have hw := gk.2
  have hi := nr_int true gk
  unfold nrI at hi
  constructor
  · intro h
    by_cases hn : n < 60
    · have := left_tight ks ⟨60, 60, heldK ks⟩ ⟨n, 60, heldK ks⟩ 60 (60 - (n : Int)) (by show ((60 : Nat) : Int) = (n : Int) + _; omega) rfl rfl hw (fits_left ks _ _ _ _ (by omega) (by omega) h)
      omega
    · exact Nat.le_trans (nr_le true gk) (by omega)
  · intro h
    exact left_fits ks ⟨60, 60, heldK ks⟩ 60 ⟨n, 99, heldK ks⟩ (nr true ks : Nat) (by show ((60 : Nat) : Int) + _ ≤ (n : Int) + 60; omega) (by show 60 ≤ 99; omega) (Nat.le_refl _) hw (by omega)
theorem nr_right {ks : List Ky} (gk : GoodH ks) (n : Nat) : fits false ks ⟨99, n, heldK ks⟩ ↔ nr false ks ≤ n := by
  have hw := gk.2
  have hi := nr_int false gk
  unfold nrI at hi
  constructor
  · intro h
    by_cases hn : n < 60
    · have := right_tight ks ⟨60, 60, heldK ks⟩ ⟨60, n, heldK ks⟩ 60 (60 - (n : Int)) (by show ((60 : Nat) : Int) = (n : Int) + _; omega) rfl rfl hw (fits_right ks _ _ _ _ (by omega) (by omega) h)
      omega
    · exact Nat.le_trans (nr_le false gk) (by omega)
  · intro h
    exact right_fits ks ⟨60, 60, heldK ks⟩ 60 ⟨99, n, heldK ks⟩ (nr false ks : Nat) (by show ((60 : Nat) : Int) + _ ≤ (n : Int) + 60; omega) (by show 60 ≤ 99; omega) (Nat.le_refl _) hw (by omega)
theorem cutL_left {ks : List Ky} (gk : GoodH ks) (n : Nat) : cutL ks ⟨n, 99, heldK ks⟩ = false ↔ nr true ks ≤ n := by
  rw [cutL_fits, nr_left gk]
  exact ⟨fun h => h.1, fun h => ⟨h, fits_big false ks _ (by have := gk.2; show hwt ks ≤ 99; omega)⟩⟩
theorem cutL_right {ks : List Ky} (gk : GoodH ks) (n : Nat) : cutL ks ⟨99, n, heldK ks⟩ = false ↔ nr false ks ≤ n := by
  rw [cutL_fits, nr_right gk]
  exact ⟨fun h => h.2, fun h => ⟨fits_big true ks _ (by have := gk.2; show hwt ks ≤ 99; omega), h⟩⟩
theorem near_fits {ks : List Ky} (gk : GoodH ks) {L R : Nat} (hL : nr true ks ≤ L) (hR : nr false ks ≤ R) : fits true ks ⟨L, R, heldK ks⟩ ∧ fits false ks ⟨L, R, heldK ks⟩ :=
  fits_both ks L 99 R 99 _ (by have := gk.2; omega) (by have := gk.2; omega) ((nr_left gk L).mpr hL) ((nr_right gk R).mpr hR)
/-! ### the table by more letters -/
def Sid.ln (s : Sid) : Ln := ⟨s.l.length, s.r.length, s.c.length⟩
def lns (ks : List Ky) (s : Ln) (i : Nat) : Ln := (ks.take i).foldl (fun s k => lstep k s) s
theorem lns_succ {ks : List Ky} {s : Ln} {i : Nat} {k : Ky} (h : ks[i]? = some k) : lns ks s (i + 1) = lstep k (lns ks s i) := by
  unfold lns
  rw [List.take_add_one, h, Option.toList_some, List.foldl_append]
  rfl
theorem kst_ln (ks : List Ky) (s : Sid) : ∀ i, (kst ks s i).ln = lns ks s.ln i
  | 0 => by unfold lns; rw [List.take_zero]; rfl
  | i + 1 => by
    cases h : ks[i]? with
    | none =>
      have e : kst ks s (i + 1) = kst ks s i := by
        conv => lhs; unfold kst
        rw [h]
      rw [e, kst_ln ks s i]
      unfold lns
      have := List.getElem?_eq_none_iff.mp h
      rw [List.take_of_length_le this, List.take_of_length_le (by omega)]
    | some k =>
      rw [lns_succ h, ← kst_ln ks s i]
      have e : kst ks s (i + 1) = ⟨(kstep k (marksD i k) (kst ks s i).l (kst ks s i).r (kst ks s i).c).1, (kstep k (marksD i k) (kst ks s i).l (kst ks s i).r (kst ks s i).c).2.1, (kstep k (marksD i k) (kst ks s i).l (kst ks s i).r (kst ks s i).c).2.2⟩ := by
        conv => lhs; unfold kst
        rw [h]
      rw [e]
      generalize kst ks s i = z
      obtain ⟨l, r, c⟩ := z
      have fl : ∀ n (x : List Dt), (farD n x).length = x.length - n := fun n x => by unfold farD; rw [List.length_take]; omega
      have nl : ∀ n (x : List Dt), (nearD n x).length = min n x.length := fun n x => by unfold nearD; rw [List.length_reverse, List.length_drop]; omega
      cases k <;> simp only [Sid.ln, kstep, lstep, marksD, List.length_append, fl, nl, List.length_map, List.length_range]
theorem fits_at (b : Bool) : ∀ (ks : List Ky) (s : Ln) (i : Nat) (k : Ky), fits b ks s → ks[i]? = some k → fitK b k (lns ks s i)
  | [], _, _, _, _, h => by cases h
  | k0 :: ks, s, 0, k, ⟨f1, _⟩, h => by
    rw [List.getElem?_cons_zero] at h
    cases h
    exact f1
  | k0 :: ks, s, i + 1, k, ⟨_, f2⟩, h => by
    rw [List.getElem?_cons_succ] at h
    exact fits_at b ks (lstep k0 s) i k f2 h
def farS' (M N : List Dt) (s : Sid) : Sid := ⟨M ++ s.l, N ++ s.r, s.c⟩
theorem nearfarD (M : List Dt) {s : List Dt} {n : Nat} (h : n ≤ s.length) : nearD n (M ++ s) = nearD n s ∧ farD n (M ++ s) = M ++ farD n s := near_far M h
theorem kst_far (M N : List Dt) {ks : List Ky} {s : Sid} (f1 : fits true ks s.ln) (f2 : fits false ks s.ln) : ∀ i, kst ks (farS' M N s) i = farS' M N (kst ks s i)
  | 0 => rfl
  | i + 1 => by
    cases h : ks[i]? with
    | none =>
      have e : ∀ s, kst ks s (i + 1) = kst ks s i := fun s => by
        conv => lhs; unfold kst
        rw [h]
      rw [e, e, kst_far M N f1 f2 i]
    | some k =>
      have e : ∀ s, kst ks s (i + 1) = ⟨(kstep k (marksD i k) (kst ks s i).l (kst ks s i).r (kst ks s i).c).1, (kstep k (marksD i k) (kst ks s i).l (kst ks s i).r (kst ks s i).c).2.1, (kstep k (marksD i k) (kst ks s i).l (kst ks s i).r (kst ks s i).c).2.2⟩ := fun s => by
        conv => lhs; unfold kst
        rw [h]
      rw [e, e, kst_far M N f1 f2 i]
      have g1 := fits_at true ks s.ln i k f1 h
      have g2 := fits_at false ks s.ln i k f2 h
      rw [← kst_ln] at g1 g2
      generalize kst ks s i = z at g1 g2
      obtain ⟨l, r, c⟩ := z
      cases k with
      | write w => show Sid.mk (M ++ l ++ marksD i (.write w)) (N ++ r) c = Sid.mk (M ++ (l ++ marksD i (.write w))) (N ++ r) c; rw [List.append_assoc]
      | paste => show Sid.mk (M ++ l ++ c) (N ++ r) c = Sid.mk (M ++ (l ++ c)) (N ++ r) c; rw [List.append_assoc]
      | left n =>
        obtain ⟨e1, e2⟩ := nearfarD M (s := l) (g1 n rfl)
        show Sid.mk (farD n (M ++ l)) (N ++ r ++ nearD n (M ++ l)) c = Sid.mk (M ++ farD n l) (N ++ (r ++ nearD n l)) c
        rw [e1, e2, List.append_assoc]
      | right n =>
        obtain ⟨e1, e2⟩ := nearfarD N (s := r) (g2 n rfl)
        show Sid.mk (M ++ l ++ nearD n (N ++ r)) (farD n (N ++ r)) c = Sid.mk (M ++ (l ++ nearD n r)) (N ++ farD n r) c
        rw [e1, e2, List.append_assoc]
      | rub n =>
        obtain ⟨e1, e2⟩ := nearfarD M (s := l) (g1 n rfl)
        show Sid.mk (farD n (M ++ l)) (N ++ r) c = Sid.mk (M ++ farD n l) (N ++ r) c
        rw [e2]
      | strike n =>
        obtain ⟨e1, e2⟩ := nearfarD N (s := r) (g2 n rfl)
        show Sid.mk (M ++ l) (farD n (N ++ r)) c = Sid.mk (M ++ l) (N ++ farD n r) c
        rw [e2]
      | copy n =>
        obtain ⟨e1, e2⟩ := nearfarD N (s := r) (g2 n rfl)
        show Sid.mk (M ++ l) (N ++ r) (nearD n (N ++ r)) = Sid.mk (M ++ l) (N ++ r) (nearD n r)
        rw [e1]
      | cut n =>
        obtain ⟨e1, e2⟩ := nearfarD N (s := r) (g2 n rfl)
        show Sid.mk (M ++ l) (farD n (N ++ r)) (nearD n (N ++ r)) = Sid.mk (M ++ l) (N ++ farD n r) (nearD n r)
        rw [e1, e2]
def more (sd L m : Nat) : List Dt := (List.range m).map fun j => spotD sd (L + j)
theorem rowD_more (sd L m : Nat) : rowD (sideS sd) (L + m) = rowD (sideS sd) L ++ more sd L m := by
  unfold rowD more spotD
  rw [List.range_add, List.map_append, List.map_map]
  rfl
theorem sid0_ln (L R c : Nat) : (sid0 L R c).ln = ⟨L, R, c⟩ := by
  show Ln.mk (rowD (cd "left") L).reverse.length (rowD (cd "right") R).reverse.length (rowD (cd "clip") c).length = _
  rw [List.length_reverse, List.length_reverse, rowD_len, rowD_len, rowD_len]
theorem tab_far {ks : List Ky} {L R c m : Nat} (f1 : fits true ks ⟨L, R, c⟩) (f2 : fits false ks ⟨L, R, c⟩) :
    tabD ks (L + m) (R + m) c = ⟨(tabD ks L R c).l ++ more 0 L m, (tabD ks L R c).r ++ more 1 R m, (tabD ks L R c).c⟩ := by
  have e : sid0 (L + m) (R + m) c = farS' (more 0 L m).reverse (more 1 R m).reverse (sid0 L R c) := by
    unfold sid0 farS'
    have e1 : rowD (cd "left") (L + m) = rowD (cd "left") L ++ more 0 L m := rowD_more 0 L m
    have e2 : rowD (cd "right") (R + m) = rowD (cd "right") R ++ more 1 R m := rowD_more 1 R m
    rw [e1, e2, List.reverse_append, List.reverse_append]
  unfold tabD
  rw [e, kst_far _ _ (by rw [sid0_ln]; exact f1) (by rw [sid0_ln]; exact f2)]
  unfold farS'
  rw [List.reverse_append, List.reverse_append, List.reverse_reverse, List.reverse_reverse]
theorem lns_all (ks : List Ky) (s : Ln) : lns ks s ks.length = ks.foldl (fun s k => lstep k s) s := by unfold lns; rw [List.take_length]
theorem fits_held : ∀ (ks : List Ky) (s : Ln), fits false ks s → (ks.foldl (fun s k => lstep k s) s).c = ks.foldl heldF s.c
  | [], _, _ => rfl
  | k :: ks, s, ⟨f1, f2⟩ => by
    rw [List.foldl_cons, List.foldl_cons, fits_held ks _ f2]
    congr 1
    cases k with
    | copy n => exact Nat.min_eq_left (f1 n rfl)
    | cut n => exact Nat.min_eq_left (f1 n rfl)
    | _ => rfl
theorem held_again (ks : List Ky) : ks.foldl heldF (heldK ks) = heldK ks := by
  obtain ⟨a1, a2⟩ := held_both ks (heldK ks)
  obtain ⟨b1, _⟩ := held_both ks 0
  by_cases h : ks.filterMap heldD = []
  · exact a2 h
  · have := (a1 h).symm.trans (b1 h)
    injection this with e
    unfold heldK at *
    omega
theorem tab_clip {ks : List Ky} {L R : Nat} (f2 : fits false ks ⟨L, R, heldK ks⟩) : (tabD ks L R (heldK ks)).c.length = heldK ks := by
  show (kst ks (sid0 L R (heldK ks)) ks.length).ln.c = _
  rw [kst_ln, lns_all, sid0_ln, fits_held ks _ f2]
  exact held_again ks
theorem far_src {ks : List Ky} (gk : GoodH ks) {sd dp : Nat} (hs : sd < 3) (hd : dp < nS (farN ks) sd) :
    (rowS (tabD ks (nr true ks + 130) (nr false ks + 130) (heldK ks)) sd)[dp]? = some (srcAt (farS ks) (farN ks) sd dp) := by
  obtain ⟨f1, f2⟩ := near_fits gk (Nat.le_refl (nr true ks)) (Nat.le_refl (nr false ks))
  rw [tab_far f1 f2]
  have l1 := nr_le true gk
  have l2 := nr_le false gk
  unfold srcAt farS
  have side : ∀ (x : List Dt) (sd L : Nat), dp < L → L ≤ 60 → (x ++ more sd L 130)[dp]? = some (match x[dp]? with | some y => y | none => spotD sd (dp - x.length + L)) := by
    intro x sd L h1 h2
    by_cases hx : dp < x.length
    · rw [List.getElem?_append_left hx, List.getElem?_eq_getElem hx]
    · have e0 : x[dp]? = none := List.getElem?_eq_none (by omega)
      rw [List.getElem?_append_right (by omega), e0]
      unfold more
      rw [List.getElem?_map, List.getElem?_range (by omega)]
      show some (spotD sd (L + (dp - x.length))) = _
      rw [Nat.add_comm]
  match sd, hs with
  | 0, _ => exact side (tabD ks (nr true ks) (nr false ks) (heldK ks)).l 0 (nr true ks) hd l1
  | 1, _ => exact side (tabD ks (nr true ks) (nr false ks) (heldK ks)).r 1 (nr false ks) hd l2
  | 2, _ =>
    have hl := tab_clip f2
    have hd : dp < heldK ks := hd
    show (tabD ks (nr true ks) (nr false ks) (heldK ks)).c[dp]? = some (match (tabD ks (nr true ks) (nr false ks) (heldK ks)).c[dp]? with | some x => x | none => _)
    rw [List.getElem?_eq_getElem (by omega)]

/-! ## whether a key is cut short -/
def byD : List (Key × W) := mergeKW [] [(.inr (tx (cd "left")), .d (.tup [.int (-1), .int 1])), (.inr (tx (cd "right")), .d (.tup [.int 1, .int (-1)])), (.inr (tx (cd "rub")), .d (.tup [.int (-1), .int 0])), (.inr (tx (cd "copy")), .d (.tup [.int 0, .int 0]))]
def byOf (z : List Nat) : Dt := match (valW byD (.inr (tx z))).getD (.d (.tup [.int 0, .int (-1)])) with
  | .d x => x
  | .o _ => .non
theorem by_at (a b : Int) (z : List Nat) (h : (valW byD (.inr (tx z))).getD (.d (.tup [.int 0, .int (-1)])) = .d (.tup [.int a, .int b])) (C : Cs) : ixW C ((valW byD (.inr (tx z))).getD (.d (.tup [.int 0, .int (-1)]))) (.d (.int 0)) = some (.d (.int a)) ∧ ixW C ((valW byD (.inr (tx z))).getD (.d (.tup [.int 0, .int (-1)]))) (.d (.int 1)) = some (.d (.int b)) := by
  rw [h]
  exact ⟨ixW_row (d := .tup [.int a, .int b]) rfl rfl, ixW_row (d := .tup [.int a, .int b]) rfl rfl⟩
def spIsCut : SpD := fun ws C Q _ => ∃ (ks : List Ky) (l r c : Nat), ws = [.d (dH ks), .d (.int l), .d (.int r), .d (.int c)] ∧ GoodH ks ∧ Q (.d (.bl (cutL ks ⟨l, r, c⟩))) C

/-! ## whether a key is cut short, told otherwise -/
theorem ok__law_is_cut (T : Txt K mg w) : FnOk P w K mg base CX0 1 T.f__law_is_cut.f T.f__law_is_cut.fd ["hand", "left", "right", "held"] (lft K spIsCut) := by
  refine okD T.f__law_is_cut.F sc__law_is_cut (fun ws C Q X h => ?_) (fun cv A out s H E hr => ⟨_, (pss_cons (ps_for PassesOwn.never rfl (pi_row K (pv 0)) (pg_name (i := 4) sc__law_is_cut.nd rfl (.inl rfl))
        (pss_one (ps_if (pt_cmpR (q_eqA K hr.units) (pe_ix (ix_seqK K) (pv 4) pe_int (fun _ _ => rfl)) pe_strL (nomark _)) (pss_one (ps_set (i := 1) sc__law_is_cut.nd rfl (.inl rfl) (pe_op (q_addA K) (pv 1) (pe_callB (call_lenK K) (by rfl) T.b_len (by decide +kernel) (pa_cons (pe_ix (ix_seqK K) (pv 4) pe_int (fun _ _ => rfl)) pa_nil))))) (pss_one (ps_if (pt_cmpR (q_eqA K hr.units) (pe_ix (ix_seqK K) (pv 4) pe_int (fun _ _ => rfl)) pe_strL (nomark _)) (pss_one (ps_set (i := 1) sc__law_is_cut.nd rfl (.inl rfl) (pe_op (q_addA K) (pv 1) (pv 3)))) (pss_cons (ps_if (pt_cmpR op_gt (pe_ix (ix_seqK K) (pv 4) pe_int (fun _ _ => rfl)) (pe_ifExp (pt_cmpR (q_in K) (pe_ix (ix_seqK K) (pv 4) pe_int (fun _ _ => rfl)) (pe_lst (pa_cons pe_strL (pa_cons pe_strL pa_nil))) (by rfl)) (pv 1) (pv 2)) (nomark _)) (pss_one (ps_ret pe_bl)) pss_nil)
      (pss_cons (ps_if (pt_cmpR (q_in K) (pe_ix (ix_seqK K) (pv 4) pe_int (fun _ _ => rfl)) (pe_lst (pa_cons pe_strL (pa_cons pe_strL pa_nil))) (by rfl)) (pss_one (ps_set (i := 3) sc__law_is_cut.nd rfl (.inl rfl) (pe_ix (ix_seqK K) (pv 4) pe_int (fun _ _ => rfl)))) pss_nil)
      (pss_cons (ps_set (i := 5) sc__law_is_cut.nd rfl (.inl rfl) (pe_disp (pps_cons pe_strL (pe_tup (pa_cons (pe_un un_neg pe_int) (pa_cons pe_int pa_nil))) (pps_cons pe_strL (pe_tup (pa_cons pe_int (pa_cons (pe_un un_neg pe_int) pa_nil))) (pps_cons pe_strL (pe_tup (pa_cons (pe_un un_neg pe_int) (pa_cons pe_int pa_nil))) (pps_cons pe_strL (pe_tup (pa_cons pe_int (pa_cons pe_int pa_nil))) pps_nil)))) (by rfl) (by rfl) (fun z => by cases z) (by decide)))
      (pss_cons (ps_set (i := 6) sc__law_is_cut.nd rfl (.inl rfl) (pe_dget2 (hu_of hr) (pv 5) (pe_ix (ix_seqK K) (pv 4) pe_int (fun _ _ => rfl)) (pe_tup (pa_cons pe_int (pa_cons (pe_un un_neg pe_int) pa_nil))) ⟨by rfl, by rfl, by rfl, by rfl⟩))
      (pss_cons (ps_set (i := 1) sc__law_is_cut.nd rfl (.inl rfl) (pe_op (q_addA K) (pv 1) (pe_op op_mul (pe_ix (ix_seqK K) (pv 6) pe_int (fun _ _ => rfl)) (pe_ix (ix_seqK K) (pv 4) pe_int (fun _ _ => rfl)))))
      (pss_one (ps_set (i := 2) sc__law_is_cut.nd rfl (.inl rfl) (pe_op (q_addA K) (pv 2) (pe_op op_mul (pe_ix (ix_seqK K) (pv 6) pe_int (fun _ _ => rfl)) (pe_ix (ix_seqK K) (pv 4) pe_int (fun _ _ => rfl))))))))))))))))
      (pss_one (ps_ret pe_bl))), _, inferInstance, fun ws C Q X h => ?_⟩)
  · obtain ⟨ks, l, r, c, rfl, _⟩ := h
    rfl
  obtain ⟨ks, l, r, c, rfl, gk, q⟩ := h
  have fw := gk.few
  walk_at "dw"
  rw [rowIt_row (d := dH ks) rfl]
  dsimp only
  refine DFor.dlist (fun i ρ C' => ∃ (s : Ln) (y4 y5 y6 : Option W) (ex : Cs), ρ = [some (.d (dH ks)), some (.d (.int s.l)), some (.d (.int s.r)), some (.d (.int s.c)), y4, y5, y6] ∧ C' = C ++ ex ∧ cutL ks ⟨l, r, c⟩ = cutL (ks.drop i) s) ⟨⟨l, r, c⟩, _, _, _, [], rfl, (List.append_nil C).symm, rfl⟩ ?_ ?_
  · rintro ρ C' ⟨s, y4, y5, y6, ex, rfl, rfl, e⟩
    rw [show (dH ks).items.length = ks.length from List.length_map .., List.drop_length] at e
    rw [e] at q
    walk_at "dw"
    exact ret.thing q
  · rintro i x ρ C' hx ⟨⟨sl, sr, sc⟩, y4, y5, y6, ex, rfl, rfl, e⟩
    have hx : (ks.map kyT)[i]? = some x := hx
    rw [List.getElem?_map] at hx
    obtain ⟨k, hk, rfl⟩ := Option.map_eq_some_iff.mp hx
    have hi := (List.getElem?_eq_some_iff.mp hk).1
    have hki : ks[i] = k := (List.getElem?_eq_some_iff.mp hk).2
    have hw : k.wt ≤ 60 := Nat.le_trans (hwt_mem (List.mem_of_getElem? hk)) gk.2
    rw [List.drop_eq_getElem_cons hi, hki] at e
    have e : cutL ks ⟨l, r, c⟩ = (hitB true k ⟨sl, sr, sc⟩ || hitB false k ⟨sl, sr, sc⟩ || cutL (ks.drop (i + 1)) (lstep k ⟨sl, sr, sc⟩)) := e
    clear hki hk
    cases k with
    | write u =>
      have a0 : ∀ C, ixW C (.d (kyT (.write u))) (.d (.int 0)) = some (.d (.str (cd "write"))) := fun C => ixW_row (d := kyT (.write u)) rfl rfl
      have a1 : ∀ C, ixW C (.d (kyT (.write u))) (.d (.int 1)) = some (.d (.str u)) := fun C => ixW_row (d := kyT (.write u)) rfl rfl
      walk_at "dw"
      simp only [a0, a1]
      walk_at "dw"
      exact ⟨⟨sl + u.length, sr, sc⟩, _, _, _, ex, rfl, rfl, e⟩
    | paste =>
      have a0 : ∀ C, ixW C (.d (kyT .paste)) (.d (.int 0)) = some (.d (.str (cd "paste"))) := fun C => ixW_row (d := kyT .paste) rfl rfl
      walk_at "dw"
      simp only [a0]
      walk_at "dw"
      exact ⟨⟨sl + sc, sr, sc⟩, _, _, _, ex, rfl, rfl, e⟩
    | left n =>
      have hn : n ≤ 60 := hw
      have a0 : ∀ C, ixW C (.d (kyT (.left n))) (.d (.int 0)) = some (.d (.str (cd "left"))) := fun C => ixW_row (d := kyT (.left n)) rfl rfl
      have a1 : ∀ C, ixW C (.d (kyT (.left n))) (.d (.int 1)) = some (.d (.int (n : Nat))) := fun C => ixW_row (d := kyT (.left n)) rfl rfl
      walk_at "dw"
      simp only [a0, a1]
      walk_at "dw"
      rw [if_neg (by decide +kernel), if_neg (by decide +kernel)]
      refine newL_f (ds := [.str (cd "left"), .str (cd "rub")]) rfl ?_
      walk_at "dw"
      show (if inV (V.str (tx (cd "left"))) [V.str (tx (cd "left")), V.str (tx (cd "rub"))] = true then _ else _)
      rw [show inV (V.str (tx (cd "left"))) [V.str (tx (cd "left")), V.str (tx (cd "rub"))] = true by decide +kernel]
      refine iteT ?_
      by_cases lt : sl < n
      · rw [if_pos (decide_eq_true (by omega))]
        have hb : hitB true (.left n) ⟨sl, sr, sc⟩ = true := decide_eq_true lt
        rw [hb] at e
        simp only [Bool.true_or, Bool.or_true] at e
        rw [e] at q
        exact ret.thing q
      rw [if_neg (by intro h; have := of_decide_eq_true h; omega)]
      have hb : hitB true (.left n) ⟨sl, sr, sc⟩ = false := decide_eq_false lt
      have hb2 : hitB false (.left n) ⟨sl, sr, sc⟩ = false := rfl
      rw [hb, hb2, Bool.or_false, Bool.false_or] at e
      refine newL_f (ds := [.str (cd "copy"), .str (cd "cut")]) rfl ?_
      walk_at "dw"
      show (if inV (V.str (tx (cd "left"))) [V.str (tx (cd "copy")), V.str (tx (cd "cut"))] = true then _ else _)
      rw [show inV (V.str (tx (cd "left"))) [V.str (tx (cd "copy")), V.str (tx (cd "cut"))] = false by decide +kernel]
      rw [if_neg (by decide)]
      refine ⟨last_at, _, rfl, by decide, ⟨byD, by rw [set_at last_at]; rfl⟩, ?_⟩
      rw [set_at (last_at (C := C ++ ex))]
      refine ⟨_, rfl, ?_⟩
      obtain ⟨b0, b1⟩ := by_at (-1) (1) (cd "left") rfl ((C ++ ex ++ [Cell.dK []]).set (C ++ ex).length (.dK byD))
      have fold : mergeKW [] [(Sum.inr (tx (cd "left")), W.d (.tup [.int (-1), .int 1])), (Sum.inr (tx (cd "right")), W.d (.tup [.int 1, .int (-1)])), (Sum.inr (tx (cd "rub")), W.d (.tup [.int (-1), .int 0])), (Sum.inr (tx (cd "copy")), W.d (.tup [.int 0, .int 0]))] = byD := rfl
      rw [fold, b0]
      dsimp only
      refine ⟨by unfold CMul; omega, ?_⟩
      rw [b1]
      dsimp only
      refine ⟨by unfold CMul; omega, ?_⟩
      have e1 : (sl : Int) + -1 * (n : Int) = ((sl - n : Nat) : Int) := by omega
      have e2 : (sr : Int) + 1 * (n : Int) = ((sr + n : Nat) : Int) := by omega
      have es : lstep (.left n) ⟨sl, sr, sc⟩ = ⟨sl - n, sr + n, sc⟩ := by show Ln.mk (sl - n) (sr + min n sl) sc = _; rw [Nat.min_eq_left (by omega)]
      rw [e1, e2]
      rw [es] at e
      refine ⟨⟨sl - n, sr + n, sc⟩, _, _, _, ex ++ [.dK byD], rfl, ?_, e⟩
      rw [List.set_append_right _ _ (Nat.le_refl _), Nat.sub_self, List.append_assoc]
      rfl
    | right n =>
      have hn : n ≤ 60 := hw
      have a0 : ∀ C, ixW C (.d (kyT (.right n))) (.d (.int 0)) = some (.d (.str (cd "right"))) := fun C => ixW_row (d := kyT (.right n)) rfl rfl
      have a1 : ∀ C, ixW C (.d (kyT (.right n))) (.d (.int 1)) = some (.d (.int (n : Nat))) := fun C => ixW_row (d := kyT (.right n)) rfl rfl
      walk_at "dw"
      simp only [a0, a1]
      walk_at "dw"
      rw [if_neg (by decide +kernel), if_neg (by decide +kernel)]
      refine newL_f (ds := [.str (cd "left"), .str (cd "rub")]) rfl ?_
      walk_at "dw"
      show (if inV (V.str (tx (cd "right"))) [V.str (tx (cd "left")), V.str (tx (cd "rub"))] = true then _ else _)
      rw [show inV (V.str (tx (cd "right"))) [V.str (tx (cd "left")), V.str (tx (cd "rub"))] = false by decide +kernel]
      rw [if_neg (by decide)]
      by_cases lt : sr < n
      · rw [if_pos (decide_eq_true (by omega))]
        have hb : hitB false (.right n) ⟨sl, sr, sc⟩ = true := decide_eq_true lt
        rw [hb] at e
        simp only [Bool.true_or, Bool.or_true] at e
        rw [e] at q
        exact ret.thing q
      rw [if_neg (by intro h; have := of_decide_eq_true h; omega)]
      have hb : hitB false (.right n) ⟨sl, sr, sc⟩ = false := decide_eq_false lt
      have hb2 : hitB true (.right n) ⟨sl, sr, sc⟩ = false := rfl
      rw [hb, hb2, Bool.or_false, Bool.false_or] at e
      refine newL_f (ds := [.str (cd "copy"), .str (cd "cut")]) rfl ?_
      walk_at "dw"
      show (if inV (V.str (tx (cd "right"))) [V.str (tx (cd "copy")), V.str (tx (cd "cut"))] = true then _ else _)
      rw [show inV (V.str (tx (cd "right"))) [V.str (tx (cd "copy")), V.str (tx (cd "cut"))] = false by decide +kernel]
      rw [if_neg (by decide)]
      refine ⟨last_at, _, rfl, by decide, ⟨byD, by rw [set_at last_at]; rfl⟩, ?_⟩
      rw [set_at (last_at (C := C ++ ex))]
      refine ⟨_, rfl, ?_⟩
      obtain ⟨b0, b1⟩ := by_at (1) (-1) (cd "right") rfl ((C ++ ex ++ [Cell.dK []]).set (C ++ ex).length (.dK byD))
      have fold : mergeKW [] [(Sum.inr (tx (cd "left")), W.d (.tup [.int (-1), .int 1])), (Sum.inr (tx (cd "right")), W.d (.tup [.int 1, .int (-1)])), (Sum.inr (tx (cd "rub")), W.d (.tup [.int (-1), .int 0])), (Sum.inr (tx (cd "copy")), W.d (.tup [.int 0, .int 0]))] = byD := rfl
      rw [fold, b0]
      dsimp only
      refine ⟨by unfold CMul; omega, ?_⟩
      rw [b1]
      dsimp only
      refine ⟨by unfold CMul; omega, ?_⟩
      have e1 : (sl : Int) + 1 * (n : Int) = ((sl + n : Nat) : Int) := by omega
      have e2 : (sr : Int) + -1 * (n : Int) = ((sr - n : Nat) : Int) := by omega
      have es : lstep (.right n) ⟨sl, sr, sc⟩ = ⟨sl + n, sr - n, sc⟩ := by show Ln.mk (sl + min n sr) (sr - n) sc = _; rw [Nat.min_eq_left (by omega)]
      rw [e1, e2]
      rw [es] at e
      refine ⟨⟨sl + n, sr - n, sc⟩, _, _, _, ex ++ [.dK byD], rfl, ?_, e⟩
      rw [List.set_append_right _ _ (Nat.le_refl _), Nat.sub_self, List.append_assoc]
      rfl
    | strike n =>
      have hn : n ≤ 60 := hw
      have a0 : ∀ C, ixW C (.d (kyT (.strike n))) (.d (.int 0)) = some (.d (.str (cd "strike"))) := fun C => ixW_row (d := kyT (.strike n)) rfl rfl
      have a1 : ∀ C, ixW C (.d (kyT (.strike n))) (.d (.int 1)) = some (.d (.int (n : Nat))) := fun C => ixW_row (d := kyT (.strike n)) rfl rfl
      walk_at "dw"
      simp only [a0, a1]
      walk_at "dw"
      rw [if_neg (by decide +kernel), if_neg (by decide +kernel)]
      refine newL_f (ds := [.str (cd "left"), .str (cd "rub")]) rfl ?_
      walk_at "dw"
      show (if inV (V.str (tx (cd "strike"))) [V.str (tx (cd "left")), V.str (tx (cd "rub"))] = true then _ else _)
      rw [show inV (V.str (tx (cd "strike"))) [V.str (tx (cd "left")), V.str (tx (cd "rub"))] = false by decide +kernel]
      rw [if_neg (by decide)]
      by_cases lt : sr < n
      · rw [if_pos (decide_eq_true (by omega))]
        have hb : hitB false (.strike n) ⟨sl, sr, sc⟩ = true := decide_eq_true lt
        rw [hb] at e
        simp only [Bool.true_or, Bool.or_true] at e
        rw [e] at q
        exact ret.thing q
      rw [if_neg (by intro h; have := of_decide_eq_true h; omega)]
      have hb : hitB false (.strike n) ⟨sl, sr, sc⟩ = false := decide_eq_false lt
      have hb2 : hitB true (.strike n) ⟨sl, sr, sc⟩ = false := rfl
      rw [hb, hb2, Bool.or_false, Bool.false_or] at e
      refine newL_f (ds := [.str (cd "copy"), .str (cd "cut")]) rfl ?_
      walk_at "dw"
      show (if inV (V.str (tx (cd "strike"))) [V.str (tx (cd "copy")), V.str (tx (cd "cut"))] = true then _ else _)
      rw [show inV (V.str (tx (cd "strike"))) [V.str (tx (cd "copy")), V.str (tx (cd "cut"))] = false by decide +kernel]
      rw [if_neg (by decide)]
      refine ⟨last_at, _, rfl, by decide, ⟨byD, by rw [set_at last_at]; rfl⟩, ?_⟩
      rw [set_at (last_at (C := C ++ ex))]
      refine ⟨_, rfl, ?_⟩
      obtain ⟨b0, b1⟩ := by_at (0) (-1) (cd "strike") rfl ((C ++ ex ++ [Cell.dK []]).set (C ++ ex).length (.dK byD))
      have fold : mergeKW [] [(Sum.inr (tx (cd "left")), W.d (.tup [.int (-1), .int 1])), (Sum.inr (tx (cd "right")), W.d (.tup [.int 1, .int (-1)])), (Sum.inr (tx (cd "rub")), W.d (.tup [.int (-1), .int 0])), (Sum.inr (tx (cd "copy")), W.d (.tup [.int 0, .int 0]))] = byD := rfl
      rw [fold, b0]
      dsimp only
      refine ⟨by unfold CMul; omega, ?_⟩
      rw [b1]
      dsimp only
      refine ⟨by unfold CMul; omega, ?_⟩
      have e1 : (sl : Int) + 0 * (n : Int) = ((sl : Nat) : Int) := by omega
      have e2 : (sr : Int) + -1 * (n : Int) = ((sr - n : Nat) : Int) := by omega
      have es : lstep (.strike n) ⟨sl, sr, sc⟩ = ⟨sl, sr - n, sc⟩ := by rfl
      rw [e1, e2]
      rw [es] at e
      refine ⟨⟨sl, sr - n, sc⟩, _, _, _, ex ++ [.dK byD], rfl, ?_, e⟩
      rw [List.set_append_right _ _ (Nat.le_refl _), Nat.sub_self, List.append_assoc]
      rfl
    | rub n =>
      have hn : n ≤ 60 := hw
      have a0 : ∀ C, ixW C (.d (kyT (.rub n))) (.d (.int 0)) = some (.d (.str (cd "rub"))) := fun C => ixW_row (d := kyT (.rub n)) rfl rfl
      have a1 : ∀ C, ixW C (.d (kyT (.rub n))) (.d (.int 1)) = some (.d (.int (n : Nat))) := fun C => ixW_row (d := kyT (.rub n)) rfl rfl
      walk_at "dw"
      simp only [a0, a1]
      walk_at "dw"
      rw [if_neg (by decide +kernel), if_neg (by decide +kernel)]
      refine newL_f (ds := [.str (cd "left"), .str (cd "rub")]) rfl ?_
      walk_at "dw"
      show (if inV (V.str (tx (cd "rub"))) [V.str (tx (cd "left")), V.str (tx (cd "rub"))] = true then _ else _)
      rw [show inV (V.str (tx (cd "rub"))) [V.str (tx (cd "left")), V.str (tx (cd "rub"))] = true by decide +kernel]
      refine iteT ?_
      by_cases lt : sl < n
      · rw [if_pos (decide_eq_true (by omega))]
        have hb : hitB true (.rub n) ⟨sl, sr, sc⟩ = true := decide_eq_true lt
        rw [hb] at e
        simp only [Bool.true_or, Bool.or_true] at e
        rw [e] at q
        exact ret.thing q
      rw [if_neg (by intro h; have := of_decide_eq_true h; omega)]
      have hb : hitB true (.rub n) ⟨sl, sr, sc⟩ = false := decide_eq_false lt
      have hb2 : hitB false (.rub n) ⟨sl, sr, sc⟩ = false := rfl
      rw [hb, hb2, Bool.or_false, Bool.false_or] at e
      refine newL_f (ds := [.str (cd "copy"), .str (cd "cut")]) rfl ?_
      walk_at "dw"
      show (if inV (V.str (tx (cd "rub"))) [V.str (tx (cd "copy")), V.str (tx (cd "cut"))] = true then _ else _)
      rw [show inV (V.str (tx (cd "rub"))) [V.str (tx (cd "copy")), V.str (tx (cd "cut"))] = false by decide +kernel]
      rw [if_neg (by decide)]
      refine ⟨last_at, _, rfl, by decide, ⟨byD, by rw [set_at last_at]; rfl⟩, ?_⟩
      rw [set_at (last_at (C := C ++ ex))]
      refine ⟨_, rfl, ?_⟩
      obtain ⟨b0, b1⟩ := by_at (-1) (0) (cd "rub") rfl ((C ++ ex ++ [Cell.dK []]).set (C ++ ex).length (.dK byD))
      have fold : mergeKW [] [(Sum.inr (tx (cd "left")), W.d (.tup [.int (-1), .int 1])), (Sum.inr (tx (cd "right")), W.d (.tup [.int 1, .int (-1)])), (Sum.inr (tx (cd "rub")), W.d (.tup [.int (-1), .int 0])), (Sum.inr (tx (cd "copy")), W.d (.tup [.int 0, .int 0]))] = byD := rfl
      rw [fold, b0]
      dsimp only
      refine ⟨by unfold CMul; omega, ?_⟩
      rw [b1]
      dsimp only
      refine ⟨by unfold CMul; omega, ?_⟩
      have e1 : (sl : Int) + -1 * (n : Int) = ((sl - n : Nat) : Int) := by omega
      have e2 : (sr : Int) + 0 * (n : Int) = ((sr : Nat) : Int) := by omega
      have es : lstep (.rub n) ⟨sl, sr, sc⟩ = ⟨sl - n, sr, sc⟩ := by rfl
      rw [e1, e2]
      rw [es] at e
      refine ⟨⟨sl - n, sr, sc⟩, _, _, _, ex ++ [.dK byD], rfl, ?_, e⟩
      rw [List.set_append_right _ _ (Nat.le_refl _), Nat.sub_self, List.append_assoc]
      rfl
    | copy n =>
      have hn : n ≤ 60 := hw
      have a0 : ∀ C, ixW C (.d (kyT (.copy n))) (.d (.int 0)) = some (.d (.str (cd "copy"))) := fun C => ixW_row (d := kyT (.copy n)) rfl rfl
      have a1 : ∀ C, ixW C (.d (kyT (.copy n))) (.d (.int 1)) = some (.d (.int (n : Nat))) := fun C => ixW_row (d := kyT (.copy n)) rfl rfl
      walk_at "dw"
      simp only [a0, a1]
      walk_at "dw"
      rw [if_neg (by decide +kernel), if_neg (by decide +kernel)]
      refine newL_f (ds := [.str (cd "left"), .str (cd "rub")]) rfl ?_
      walk_at "dw"
      show (if inV (V.str (tx (cd "copy"))) [V.str (tx (cd "left")), V.str (tx (cd "rub"))] = true then _ else _)
      rw [show inV (V.str (tx (cd "copy"))) [V.str (tx (cd "left")), V.str (tx (cd "rub"))] = false by decide +kernel]
      rw [if_neg (by decide)]
      by_cases lt : sr < n
      · rw [if_pos (decide_eq_true (by omega))]
        have hb : hitB false (.copy n) ⟨sl, sr, sc⟩ = true := decide_eq_true lt
        rw [hb] at e
        simp only [Bool.true_or, Bool.or_true] at e
        rw [e] at q
        exact ret.thing q
      rw [if_neg (by intro h; have := of_decide_eq_true h; omega)]
      have hb : hitB false (.copy n) ⟨sl, sr, sc⟩ = false := decide_eq_false lt
      have hb2 : hitB true (.copy n) ⟨sl, sr, sc⟩ = false := rfl
      rw [hb, hb2, Bool.or_false, Bool.false_or] at e
      refine newL_f (ds := [.str (cd "copy"), .str (cd "cut")]) rfl ?_
      walk_at "dw"
      show (if inV (V.str (tx (cd "copy"))) [V.str (tx (cd "copy")), V.str (tx (cd "cut"))] = true then _ else _)
      rw [show inV (V.str (tx (cd "copy"))) [V.str (tx (cd "copy")), V.str (tx (cd "cut"))] = true by decide +kernel]
      refine iteT ?_
      refine ⟨last_at, _, rfl, by decide, ⟨byD, by rw [set_at last_at]; rfl⟩, ?_⟩
      rw [set_at (last_at (C := C ++ ex))]
      refine ⟨_, rfl, ?_⟩
      obtain ⟨b0, b1⟩ := by_at (0) (0) (cd "copy") rfl ((C ++ ex ++ [Cell.dK []]).set (C ++ ex).length (.dK byD))
      have fold : mergeKW [] [(Sum.inr (tx (cd "left")), W.d (.tup [.int (-1), .int 1])), (Sum.inr (tx (cd "right")), W.d (.tup [.int 1, .int (-1)])), (Sum.inr (tx (cd "rub")), W.d (.tup [.int (-1), .int 0])), (Sum.inr (tx (cd "copy")), W.d (.tup [.int 0, .int 0]))] = byD := rfl
      rw [fold, b0]
      dsimp only
      refine ⟨by unfold CMul; omega, ?_⟩
      rw [b1]
      dsimp only
      refine ⟨by unfold CMul; omega, ?_⟩
      have e1 : (sl : Int) + 0 * (n : Int) = ((sl : Nat) : Int) := by omega
      have e2 : (sr : Int) + 0 * (n : Int) = ((sr : Nat) : Int) := by omega
      have es : lstep (.copy n) ⟨sl, sr, sc⟩ = ⟨sl, sr, n⟩ := by show Ln.mk sl sr (min n sr) = _; rw [Nat.min_eq_left (by omega)]
      rw [e1, e2]
      rw [es] at e
      refine ⟨⟨sl, sr, n⟩, _, _, _, ex ++ [.dK byD], rfl, ?_, e⟩
      rw [List.set_append_right _ _ (Nat.le_refl _), Nat.sub_self, List.append_assoc]
      rfl
    | cut n =>
      have hn : n ≤ 60 := hw
      have a0 : ∀ C, ixW C (.d (kyT (.cut n))) (.d (.int 0)) = some (.d (.str (cd "cut"))) := fun C => ixW_row (d := kyT (.cut n)) rfl rfl
      have a1 : ∀ C, ixW C (.d (kyT (.cut n))) (.d (.int 1)) = some (.d (.int (n : Nat))) := fun C => ixW_row (d := kyT (.cut n)) rfl rfl
      walk_at "dw"
      simp only [a0, a1]
      walk_at "dw"
      rw [if_neg (by decide +kernel), if_neg (by decide +kernel)]
      refine newL_f (ds := [.str (cd "left"), .str (cd "rub")]) rfl ?_
      walk_at "dw"
      show (if inV (V.str (tx (cd "cut"))) [V.str (tx (cd "left")), V.str (tx (cd "rub"))] = true then _ else _)
      rw [show inV (V.str (tx (cd "cut"))) [V.str (tx (cd "left")), V.str (tx (cd "rub"))] = false by decide +kernel]
      rw [if_neg (by decide)]
      by_cases lt : sr < n
      · rw [if_pos (decide_eq_true (by omega))]
        have hb : hitB false (.cut n) ⟨sl, sr, sc⟩ = true := decide_eq_true lt
        rw [hb] at e
        simp only [Bool.true_or, Bool.or_true] at e
        rw [e] at q
        exact ret.thing q
      rw [if_neg (by intro h; have := of_decide_eq_true h; omega)]
      have hb : hitB false (.cut n) ⟨sl, sr, sc⟩ = false := decide_eq_false lt
      have hb2 : hitB true (.cut n) ⟨sl, sr, sc⟩ = false := rfl
      rw [hb, hb2, Bool.or_false, Bool.false_or] at e
      refine newL_f (ds := [.str (cd "copy"), .str (cd "cut")]) rfl ?_
      walk_at "dw"
      show (if inV (V.str (tx (cd "cut"))) [V.str (tx (cd "copy")), V.str (tx (cd "cut"))] = true then _ else _)
      rw [show inV (V.str (tx (cd "cut"))) [V.str (tx (cd "copy")), V.str (tx (cd "cut"))] = true by decide +kernel]
      refine iteT ?_
      refine ⟨last_at, _, rfl, by decide, ⟨byD, by rw [set_at last_at]; rfl⟩, ?_⟩
      rw [set_at (last_at (C := C ++ ex))]
      refine ⟨_, rfl, ?_⟩
      obtain ⟨b0, b1⟩ := by_at (0) (-1) (cd "cut") rfl ((C ++ ex ++ [Cell.dK []]).set (C ++ ex).length (.dK byD))
      have fold : mergeKW [] [(Sum.inr (tx (cd "left")), W.d (.tup [.int (-1), .int 1])), (Sum.inr (tx (cd "right")), W.d (.tup [.int 1, .int (-1)])), (Sum.inr (tx (cd "rub")), W.d (.tup [.int (-1), .int 0])), (Sum.inr (tx (cd "copy")), W.d (.tup [.int 0, .int 0]))] = byD := rfl
      rw [fold, b0]
      dsimp only
      refine ⟨by unfold CMul; omega, ?_⟩
      rw [b1]
      dsimp only
      refine ⟨by unfold CMul; omega, ?_⟩
      have e1 : (sl : Int) + 0 * (n : Int) = ((sl : Nat) : Int) := by omega
      have e2 : (sr : Int) + -1 * (n : Int) = ((sr - n : Nat) : Int) := by omega
      have es : lstep (.cut n) ⟨sl, sr, sc⟩ = ⟨sl, sr - n, n⟩ := by show Ln.mk sl (sr - n) (min n sr) = _; rw [Nat.min_eq_left (by omega)]
      rw [e1, e2]
      rw [es] at e
      refine ⟨⟨sl, sr - n, n⟩, _, _, _, ex ++ [.dK byD], rfl, ?_, e⟩
      rw [List.set_append_right _ _ (Nat.le_refl _), Nat.sub_self, List.append_assoc]
      rfl

/-! ## far from all ends, by trying -/
def farT (ks : List Ky) : Dt := .tup [nT (farN ks), tabT ks (nr true ks + 130) (nr false ks + 130) (heldK ks)]
theorem first_least {f : Nat → Bool} {n m : Nat} (h : ∀ i, f i = false ↔ n ≤ i) (hm : n < m) : atI ((List.range m).filterMap fun i => if f i = true then none else some (Dt.int (i : Nat))) 0 = some (.int (n : Nat)) := by
  obtain ⟨d, rfl⟩ := Nat.exists_eq_add_of_lt hm
  have e : (List.range (n + d + 1)).filterMap (fun i => if f i = true then none else some (Dt.int (i : Nat))) = .int (n : Nat) :: (List.range d).filterMap fun i => if f (n + 1 + i) = true then none else some (Dt.int ((n + 1 + i : Nat) : Int)) := by
    rw [show n + d + 1 = n + (1 + d) by omega, List.range_add, List.filterMap_append, List.range_add, List.map_append, List.filterMap_append]
    have e0 : (List.range n).filterMap (fun i => if f i = true then none else some (Dt.int (i : Nat))) = [] := by
      rw [List.filterMap_eq_nil_iff]
      intro i hi
      have : f i = true := by
        cases e : f i with
        | true => rfl
        | false => have := (h i).mp e; have := List.mem_range.mp hi; omega
      rw [if_pos this]
    rw [e0, List.nil_append]
    have e1 : ((List.range 1).map fun i => n + i).filterMap (fun i => if f i = true then none else some (Dt.int (i : Nat))) = [.int (n : Nat)] := by
      show List.filterMap _ [n + 0] = _
      rw [Nat.add_zero, List.filterMap_cons, if_neg (by rw [(h n).mpr (Nat.le_refl _)]; decide)]
      rfl
    rw [e1, List.map_map, List.filterMap_map]
    show _ :: _ = _
    congr 1
    have : (fun i => if f (n + (1 + i)) = true then none else some (Dt.int ((n + (1 + i) : Nat) : Int))) = fun i => if f (n + 1 + i) = true then none else some (Dt.int ((n + 1 + i : Nat) : Int)) := by
      funext i
      rw [Nat.add_assoc]
    exact congrArg (fun g => List.filterMap g (List.range d)) this
  rw [e]
  exact atI_0
def spFarL : SpD := fun ws C Q _ => ∃ ks : List Ky, ws = [.d (dH ks)] ∧ GoodH ks ∧ Q (.d (farT ks)) C
theorem ok__law_far (T : Txt K mg w) : FnOk P w K mg base CX0 2 T.f__law_far.f T.f__law_far.fd ["hand"] (lft K spFarL) := by
  refine okD T.f__law_far.F sc__law_far (fun ws C Q X h => ?_) (fun cv A out s H E hr => ⟨_, (pss_cons (ps_set (i := 1) sc__law_far.nd rfl (.inr rfl) (pe_ix (ix_seqK K) (pe_op (q_addA K) (pe_lst (pa_cons pe_int pa_nil)) (pe_lcK [5] (pe_lc (own := [("key", 5)]) rfl sc__law_far.nd (pi_row K (pv 0)) (blkOk_by (own := [("key", 5)]) (N := N__law_far) (sc := defScope s__law_far) (by decide +kernel)) (fun _ _ _ _ _ => (pg_name (i := 5) sc__law_far.nd rfl (.inl rfl))) (fun _ _ _ _ _ => (pts_one (pt_cmpR (q_in K) (pe_ix (ix_seqK K) (pv 5) pe_int (fun _ _ => rfl)) (pe_lst (pa_cons pe_strL (pa_cons pe_strL pa_nil))) (by rfl)))) (fun _ _ _ _ _ => (pe_ix (ix_seqK K) (pv 5) pe_int (fun _ _ => rfl)))))) (pe_un un_neg pe_int) (fun _ _ => rfl)))
      (pss_cons (ps_set (i := 2) sc__law_far.nd rfl (.inl rfl) (pe_ix (ix_seqK K) (pe_lcK [4] (pe_lc (own := [("size", 4)]) rfl sc__law_far.nd (pi_range1 (by rfl) T.b_range (pa_cons pe_int pa_nil)) (blkOk_by (own := [("size", 4)]) (N := N__law_far) (sc := defScope s__law_far) (by decide +kernel)) (fun _ _ _ _ _ => (pg_name (i := 4) sc__law_far.nd rfl (.inl rfl))) (fun _ _ _ _ _ => (pts_one (pt_not (pt_val (pe_call (ok__law_is_cut T) (hr.mono (by first | decide | omega)) (by rfl) T.f__law_is_cut.g T.f__law_is_cut.F.kp T.f__law_is_cut.b .nil pass0 (pa_cons (pv 0) (pa_cons (pv 4) (pa_cons pe_int (pa_cons (pv 1) pa_nil))))))))) (fun _ _ _ _ _ => (pv 4)))) pe_int (fun _ _ => rfl)))
      (pss_cons (ps_set (i := 3) sc__law_far.nd rfl (.inl rfl) (pe_ix (ix_seqK K) (pe_lcK [4] (pe_lc (own := [("size", 4)]) rfl sc__law_far.nd (pi_range1 (by rfl) T.b_range (pa_cons pe_int pa_nil)) (blkOk_by (own := [("size", 4)]) (N := N__law_far) (sc := defScope s__law_far) (by decide +kernel)) (fun _ _ _ _ _ => (pg_name (i := 4) sc__law_far.nd rfl (.inl rfl))) (fun _ _ _ _ _ => (pts_one (pt_not (pt_val (pe_call (ok__law_is_cut T) (hr.mono (by first | decide | omega)) (by rfl) T.f__law_is_cut.g T.f__law_is_cut.F.kp T.f__law_is_cut.b .nil pass0 (pa_cons (pv 0) (pa_cons pe_int (pa_cons (pv 4) (pa_cons (pv 1) pa_nil))))))))) (fun _ _ _ _ _ => (pv 4)))) pe_int (fun _ _ => rfl)))
      (pss_one (ps_ret (pe_tup (pa_cons (pe_tup (pa_cons (pv 2) (pa_cons (pv 3) (pa_cons (pv 1) pa_nil)))) (pa_cons (pe_call (ok__law_table T) (hr.mono (by first | decide | omega)) (by rfl) T.f__law_table.g T.f__law_table.F.kp T.f__law_table.b .nil pass0 (pa_cons (pv 0) (pa_cons (pe_op (q_addA K) (pv 2) pe_int) (pa_cons (pe_op (q_addA K) (pv 3) pe_int) (pa_cons (pv 1) pa_nil))))) pa_nil)))))))), _, inferInstance, fun ws C Q X h => ?_⟩)
  · obtain ⟨ks, rfl, _⟩ := h
    rfl
  obtain ⟨ks, rfl, gk, q⟩ := h
  have fw := gk.few
  walk_at "dw"
  refine newL_f (ds := [.int 0]) rfl ?_
  rw [rowIt_row (d := dH ks) rfl]
  dsimp only
  have tN : ∀ n : Nat, ((n : Nat) : Int).toNat = n := fun n => Int.toNat_natCast n
  have hkx : ∀ i k, ks[i]? = some k → (ks.map kyT)[i]? = some (kyT k) := fun i k h => by rw [List.getElem?_map, h]; rfl
  have hl : (ks.map kyT).length = ks.length := List.length_map ..
  have setl : ∀ (C : Cs) (x y : Cell), (C ++ [x]).set C.length y = C ++ [y] := fun C x y => by rw [List.set_append_right _ _ (Nat.le_refl _), Nat.sub_self]; rfl
  refine DLc.overF (ks.map kyT).length (fun i => .d ((ks.map kyT).getD i .non)) (fun i => (ks[i]?).bind heldD) (by omega) (fun i acc => itList_if i _) ?_ ?_
  · intro i acc R S hi hR
    have hk : ks[i]? = some (ks[i]'(by omega)) := List.getElem?_eq_getElem (by omega)
    have hx : (ks.map kyT).getD i .non = kyT (ks[i]'(by omega)) := by rw [List.getD_eq_getElem?_getD, hkx i _ hk]; rfl
    rw [hx]
    rw [hk] at hR
    generalize ks[i]'(by omega) = k at hR
    have hR : match heldD k with | some x => R (.d x) (C ++ [.lst acc]) | none => S (C ++ [.lst acc]) := hR
    walk_at "dw"
    cases k with
    | write u =>
      rw [ixW_row (d := kyT (.write u)) (x := .str (cd "write")) rfl rfl]
      dsimp only
      refine newL_f (ds := [.str (cd "copy"), .str (cd "cut")]) rfl ?_
      walk_at "dw"
      show (if inV (V.str (tx (cd "write"))) [V.str (tx (cd "copy")), V.str (tx (cd "cut"))] = true then _ else _)
      rw [show inV (V.str (tx (cd "write"))) [V.str (tx (cd "copy")), V.str (tx (cd "cut"))] = false by decide +kernel]
      rw [if_neg (by decide)]
      exact hR
    | paste =>
      rw [ixW_row (d := kyT .paste) (x := .str (cd "paste")) rfl rfl]
      dsimp only
      refine newL_f (ds := [.str (cd "copy"), .str (cd "cut")]) rfl ?_
      walk_at "dw"
      show (if inV (V.str (tx (cd "paste"))) [V.str (tx (cd "copy")), V.str (tx (cd "cut"))] = true then _ else _)
      rw [show inV (V.str (tx (cd "paste"))) [V.str (tx (cd "copy")), V.str (tx (cd "cut"))] = false by decide +kernel]
      rw [if_neg (by decide)]
      exact hR
    | left n =>
      rw [ixW_row (d := kyT (.left n)) (x := .str (cd "left")) rfl rfl]
      dsimp only
      refine newL_f (ds := [.str (cd "copy"), .str (cd "cut")]) rfl ?_
      walk_at "dw"
      show (if inV (V.str (tx (cd "left"))) [V.str (tx (cd "copy")), V.str (tx (cd "cut"))] = true then _ else _)
      rw [show inV (V.str (tx (cd "left"))) [V.str (tx (cd "copy")), V.str (tx (cd "cut"))] = false by decide +kernel]
      rw [if_neg (by decide)]
      exact hR
    | right n =>
      rw [ixW_row (d := kyT (.right n)) (x := .str (cd "right")) rfl rfl]
      dsimp only
      refine newL_f (ds := [.str (cd "copy"), .str (cd "cut")]) rfl ?_
      walk_at "dw"
      show (if inV (V.str (tx (cd "right"))) [V.str (tx (cd "copy")), V.str (tx (cd "cut"))] = true then _ else _)
      rw [show inV (V.str (tx (cd "right"))) [V.str (tx (cd "copy")), V.str (tx (cd "cut"))] = false by decide +kernel]
      rw [if_neg (by decide)]
      exact hR
    | strike n =>
      rw [ixW_row (d := kyT (.strike n)) (x := .str (cd "strike")) rfl rfl]
      dsimp only
      refine newL_f (ds := [.str (cd "copy"), .str (cd "cut")]) rfl ?_
      walk_at "dw"
      show (if inV (V.str (tx (cd "strike"))) [V.str (tx (cd "copy")), V.str (tx (cd "cut"))] = true then _ else _)
      rw [show inV (V.str (tx (cd "strike"))) [V.str (tx (cd "copy")), V.str (tx (cd "cut"))] = false by decide +kernel]
      rw [if_neg (by decide)]
      exact hR
    | rub n =>
      rw [ixW_row (d := kyT (.rub n)) (x := .str (cd "rub")) rfl rfl]
      dsimp only
      refine newL_f (ds := [.str (cd "copy"), .str (cd "cut")]) rfl ?_
      walk_at "dw"
      show (if inV (V.str (tx (cd "rub"))) [V.str (tx (cd "copy")), V.str (tx (cd "cut"))] = true then _ else _)
      rw [show inV (V.str (tx (cd "rub"))) [V.str (tx (cd "copy")), V.str (tx (cd "cut"))] = false by decide +kernel]
      rw [if_neg (by decide)]
      exact hR
    | copy n =>
      rw [ixW_row (d := kyT (.copy n)) (x := .str (cd "copy")) rfl rfl]
      dsimp only
      refine newL_f (ds := [.str (cd "copy"), .str (cd "cut")]) rfl ?_
      walk_at "dw"
      show (if inV (V.str (tx (cd "copy"))) [V.str (tx (cd "copy")), V.str (tx (cd "cut"))] = true then _ else _)
      rw [show inV (V.str (tx (cd "copy"))) [V.str (tx (cd "copy")), V.str (tx (cd "cut"))] = true by decide +kernel]
      refine iteT ?_
      rw [ixW_row (d := kyT (.copy n)) (x := .int (n : Nat)) rfl rfl]
      exact hR
    | cut n =>
      rw [ixW_row (d := kyT (.cut n)) (x := .str (cd "cut")) rfl rfl]
      dsimp only
      refine newL_f (ds := [.str (cd "copy"), .str (cd "cut")]) rfl ?_
      walk_at "dw"
      show (if inV (V.str (tx (cd "cut"))) [V.str (tx (cd "copy")), V.str (tx (cd "cut"))] = true then _ else _)
      rw [show inV (V.str (tx (cd "cut"))) [V.str (tx (cd "copy")), V.str (tx (cd "cut"))] = true by decide +kernel]
      refine iteT ?_
      rw [ixW_row (d := kyT (.cut n)) (x := .int (n : Nat)) rfl rfl]
      exact hR
  · rw [hl, range_filterMap heldD ks]
    have kh : atI (.int 0 :: ks.filterMap heldD) (-1) = some (.int (heldK ks : Nat)) := by
      rw [atI_last (List.cons_ne_nil _ _)]
      by_cases hn : ks.filterMap heldD = []
      · have h0 := (held_both ks 0).2 hn
        unfold heldK
        rw [h0]
        simp only [hn]
        rfl
      · rw [List.getLast_cons hn]
        exact congrArg some ((held_both ks 0).1 hn)
    have kl : (ks.filterMap heldD).length ≤ 60 := Nat.le_trans (List.length_filterMap_le ..) fw
    walk_at "dw"
    refine ⟨by omega, newL_f (ds := .int 0 :: ks.filterMap heldD) (allD_map (.int 0 :: ks.filterMap heldD)) ?_⟩
    rw [ixW_row (d := .lst (.int 0 :: ks.filterMap heldD)) rfl kh]
    dsimp only
    refine ⟨by decide, ?_⟩
    have z0 : ∀ a : Nat, (0 : Int) + (a : Nat) = (a : Nat) := fun a => Int.zero_add _
    have n1 := nr_le true gk
    have n2 := nr_le false gk
    rw [show Int.toNat 61 = 61 from rfl]
    refine DLc.overF 61 (fun i => .d (.int (0 + i))) (fun i => if cutL ks ⟨i, 99, heldK ks⟩ = true then none else some (.int (i : Nat))) (by decide) (fun i acc => itRng_if i _) ?_ ?_
    · intro i acc R S hi hR
      walk_at "dw"
      rw [z0]
      refine ⟨ks, i, 99, heldK ks, rfl, gk, ?_⟩
      cases hc : cutL ks ⟨i, 99, heldK ks⟩ with
      | true => rw [hc] at hR; walk_at "dw"; exact hR
      | false => rw [hc] at hR; walk_at "dw"; exact hR
    have f1 := first_least (f := fun i => cutL ks ⟨i, 99, heldK ks⟩) (n := nr true ks) (m := 61) (fun i => cutL_left gk i) (by omega)
    rw [ixW_row (d := .lst ((List.range 61).filterMap fun i => if cutL ks ⟨i, 99, heldK ks⟩ = true then none else some (.int (i : Nat)))) rfl f1]
    dsimp only
    refine ⟨by decide, ?_⟩
    refine DLc.overF 61 (fun i => .d (.int (0 + i))) (fun i => if cutL ks ⟨99, i, heldK ks⟩ = true then none else some (.int (i : Nat))) (by decide) (fun i acc => itRng_if i _) ?_ ?_
    · intro i acc R S hi hR
      walk_at "dw"
      rw [z0]
      refine ⟨ks, 99, i, heldK ks, rfl, gk, ?_⟩
      cases hc : cutL ks ⟨99, i, heldK ks⟩ with
      | true => rw [hc] at hR; walk_at "dw"; exact hR
      | false => rw [hc] at hR; walk_at "dw"; exact hR
    have f2 := first_least (f := fun i => cutL ks ⟨99, i, heldK ks⟩) (n := nr false ks) (m := 61) (fun i => cutL_right gk i) (by omega)
    rw [ixW_row (d := .lst ((List.range 61).filterMap fun i => if cutL ks ⟨99, i, heldK ks⟩ = true then none else some (.int (i : Nat)))) rfl f2]
    walk_at "dw"
    refine ⟨ks, nr true ks + 130, nr false ks + 130, heldK ks, rfl, gk, by omega, by omega, held_le gk, ?_⟩
    walk_at "dw"
    exact ret.same q

/-! ## going round: periods, orbits, least ones -/
section
variable {α : Type} [DecidableEq α] {f : α → Option α} {p q r : α} {m i j : Nat}
def itn (f : α → Option α) : Nat → α → Option α
  | 0, p => some p
  | n + 1, p => (itn f n p).bind f
def Per (f : α → Option α) (p : α) (m : Nat) : Prop := 0 < m ∧ itn f m p = some p ∧ ∀ j, 0 < j → j < m → itn f j p ≠ some p
theorem itn_add : ∀ b : Nat, itn f (i + b) p = (itn f i p).bind (itn f b)
  | 0 => by cases h : itn f i p <;> simp [itn, h]
  | b + 1 => by
    show (itn f (i + b) p).bind f = _
    rw [itn_add b]
    cases h : itn f i p with
    | none => rfl
    | some x => rfl
theorem itn_at (h : itn f i p = some q) (b : Nat) : itn f (i + b) p = itn f b q := by rw [itn_add, h]; rfl
theorem itn_le (h : itn f m p = some q) (hi : i ≤ m) : ∃ x, itn f i p = some x := by
  obtain ⟨b, rfl⟩ := Nat.exists_eq_add_of_le hi
  rw [itn_add] at h
  cases e : itn f i p with
  | none => rw [e] at h; cases h
  | some x => exact ⟨x, rfl⟩
theorem Per.mul (h : Per f p m) : ∀ k, itn f (m * k) p = some p
  | 0 => rfl
  | k + 1 => by rw [Nat.mul_succ, Nat.add_comm, itn_at h.2.1, h.mul k]
theorem Per.mod (h : Per f p m) (i : Nat) : itn f i p = itn f (i % m) p := by
  conv => lhs; rw [← Nat.div_add_mod i m]
  exact itn_at (h.mul (i / m)) _
theorem Per.has (h : Per f p m) (i : Nat) : ∃ x, itn f i p = some x := by
  rw [h.mod]
  exact itn_le h.2.1 (Nat.le_of_lt (Nat.mod_lt _ h.1))
theorem Per.back (h : Per f p m) (e : itn f i p = some q) (hi : i ≤ m) : itn f (m - i) q = some p := by
  rw [← itn_at e, show i + (m - i) = m by omega]
  exact h.2.1
theorem Per.shift0 (h : Per f p m) (hi : i < m) (e : itn f i p = some q) : Per f q m := by
  refine ⟨h.1, ?_, fun j h0 hj e2 => ?_⟩
  · rw [← itn_at e, Nat.add_comm, itn_at h.2.1]
    exact e
  · have b := h.back e (by omega)
    have : itn f (i + j + (m - i)) p = some p := by
      rw [Nat.add_assoc, itn_at e, itn_at e2]
      exact b
    rw [show i + j + (m - i) = m + j by omega, itn_at h.2.1] at this
    exact h.2.2 j h0 hj this
theorem Per.shift (h : Per f p m) (e : itn f i p = some q) : Per f q m := by
  rw [h.mod] at e
  exact h.shift0 (Nat.mod_lt _ h.1) e
theorem Per.uniq {m' : Nat} (h : Per f p m) (h' : Per f p m') : m = m' := by
  rcases Nat.lt_trichotomy m m' with l | l | l
  · exact absurd h.2.1 (h'.2.2 m h.1 l)
  · exact l
  · exact absurd h'.2.1 (h.2.2 m' h'.1 l)
theorem Per.inj (h : Per f p m) (hij : i < j) (hj : j < m) (e1 : itn f i p = some q) (e2 : itn f j p = some q) : False := by
  have h1 := h.shift0 (Nat.lt_trans hij hj) e1
  have : itn f (j - i) q = some q := by rw [← itn_at e1, show i + (j - i) = j by omega]; exact e2
  exact h1.2.2 (j - i) (by omega) (by omega) this
/-- where one comes, so many steps -/
def orb (f : α → Option α) (p : α) (m : Nat) : List α := (List.range m).filterMap fun i => itn f i p
theorem mem_orb : q ∈ orb f p m ↔ ∃ i, i < m ∧ itn f i p = some q := by
  unfold orb
  rw [List.mem_filterMap]
  exact ⟨fun ⟨i, h, e⟩ => ⟨i, List.mem_range.mp h, e⟩, fun ⟨i, h, e⟩ => ⟨i, List.mem_range.mpr h, e⟩⟩
theorem orb_succ (e : itn f m p = some q) : orb f p (m + 1) = orb f p m ++ [q] := by
  unfold orb
  rw [List.range_succ, List.filterMap_append]
  simp [e]
theorem orb_len (h : ∀ i, i < m → ∃ x, itn f i p = some x) : (orb f p m).length = m := by
  induction m with
  | zero => rfl
  | succ m ih =>
    obtain ⟨x, e⟩ := h m (Nat.lt_succ_self m)
    rw [orb_succ e, List.length_append, ih fun i hi => h i (Nat.lt_succ_of_lt hi)]
    rfl
theorem orb_nodup (h : ∀ i j q, i < j → j < m → itn f i p = some q → itn f j p = some q → False) : (orb f p m).Nodup := by
  induction m with
  | zero => exact List.nodup_nil
  | succ m ih =>
    cases e : itn f m p with
    | none =>
      have : orb f p (m + 1) = orb f p m := by
        unfold orb
        rw [List.range_succ, List.filterMap_append]
        simp [e]
      rw [this]
      exact ih fun i j q hi hj => h i j q hi (Nat.lt_succ_of_lt hj)
    | some x =>
      rw [orb_succ e, List.nodup_append]
      refine ⟨ih fun i j q hi hj => h i j q hi (Nat.lt_succ_of_lt hj), List.nodup_cons.mpr ⟨List.not_mem_nil, List.nodup_nil⟩, fun a ha b hb => ?_⟩
      rw [List.mem_singleton] at hb
      subst hb
      rintro rfl
      obtain ⟨i, hi, e1⟩ := mem_orb.mp ha
      exact h i m a hi (Nat.lt_succ_self m) e1 e
theorem Per.nodup (h : Per f p m) : (orb f p m).Nodup := orb_nodup fun _ _ _ hi hj e1 e2 => h.inj hi hj e1 e2
theorem Per.mem_self (h : Per f p m) : p ∈ orb f p m := mem_orb.mpr ⟨0, h.1, rfl⟩
theorem Per.sub (h : Per f p m) (hq : q ∈ orb f p m) : ∀ x ∈ orb f q m, x ∈ orb f p m := fun x hx => by
  obtain ⟨i, hi, e⟩ := mem_orb.mp hq
  obtain ⟨j, hj, e2⟩ := mem_orb.mp hx
  have : itn f (i + j) p = some x := by rw [itn_at e]; exact e2
  rw [h.mod] at this
  exact mem_orb.mpr ⟨_, Nat.mod_lt _ h.1, this⟩
theorem Per.sym (h : Per f p m) (hq : q ∈ orb f p m) : p ∈ orb f q m := by
  obtain ⟨i, hi, e⟩ := mem_orb.mp hq
  have hp := h.shift0 hi e
  have := h.back e (Nat.le_of_lt hi)
  rw [hp.mod] at this
  exact mem_orb.mpr ⟨_, Nat.mod_lt _ h.1, this⟩
theorem Per.of_mem (h : Per f p m) (hq : q ∈ orb f p m) : Per f q m := by
  obtain ⟨i, hi, e⟩ := mem_orb.mp hq
  exact h.shift0 hi e
/-! ### lists without doubles -/
theorem nodup_le : ∀ {a b : List α}, a.Nodup → (∀ x ∈ a, x ∈ b) → a.length ≤ b.length
  | [], _, _, _ => Nat.zero_le _
  | x :: a, b, n, h => by
    obtain ⟨n1, n2⟩ := List.nodup_cons.mp n
    have hx := h x (List.mem_cons_self ..)
    have l := nodup_le (a := a) (b := b.erase x) n2 fun y hy => (List.mem_erase_of_ne (fun e : y = x => n1 (by rw [← e]; exact hy))).mpr (h y (List.mem_cons_of_mem _ hy))
    rw [List.length_erase_of_mem hx] at l
    have := List.length_pos_of_mem hx
    rw [List.length_cons]
    omega
theorem nodup_same {a b : List α} (na : a.Nodup) (nb : b.Nodup) (h : ∀ x, x ∈ a ↔ x ∈ b) : a.length = b.length := Nat.le_antisymm (nodup_le na fun x => (h x).mp) (nodup_le nb fun x => (h x).mpr)
theorem flat_len {β : Type} {g : β → List α} : ∀ {l : List β}, (∀ x ∈ l, (g x).length = m) → (l.flatMap g).length = m * l.length
  | [], _ => rfl
  | x :: l, h => by
    rw [List.flatMap_cons, List.length_append, h x (List.mem_cons_self ..), flat_len fun y hy => h y (List.mem_cons_of_mem _ hy), List.length_cons, Nat.mul_succ]
    omega
theorem flat_nodup {g : α → List α} : ∀ {l : List α}, l.Nodup → (∀ x ∈ l, (g x).Nodup) → (∀ x ∈ l, ∀ y ∈ l, ∀ z, z ∈ g x → z ∈ g y → x = y) → (l.flatMap g).Nodup
  | [], _, _, _ => List.nodup_nil
  | x :: l, n, h, d => by
    obtain ⟨n1, n2⟩ := List.nodup_cons.mp n
    rw [List.flatMap_cons, List.nodup_append]
    refine ⟨h x (List.mem_cons_self ..), flat_nodup n2 (fun y hy => h y (List.mem_cons_of_mem _ hy)) (fun y hy w hw z => d y (List.mem_cons_of_mem _ hy) w (List.mem_cons_of_mem _ hw) z), fun a ha b hb => ?_⟩
    rintro rfl
    obtain ⟨y, hy, hz⟩ := List.mem_flatMap.mp hb
    have := d x (List.mem_cons_self ..) y (List.mem_cons_of_mem _ hy) a ha hz
    subst this
    exact n1 hy
/-- the least on its ring -/
def leastB (f : α → Option α) (ρ : α → Nat) (m : Nat) (p : α) : Bool := (orb f p m).all fun q => decide (ρ p ≤ ρ q)
theorem least_iff {ρ : α → Nat} : leastB f ρ m p = true ↔ ∀ q ∈ orb f p m, ρ p ≤ ρ q := by
  unfold leastB
  rw [List.all_eq_true]
  exact ⟨fun h q hq => of_decide_eq_true (h q hq), fun h q hq => decide_eq_true (h q hq)⟩
theorem min_ex {ρ : α → Nat} : ∀ {l : List α}, l ≠ [] → ∃ x ∈ l, ∀ y ∈ l, ρ x ≤ ρ y
  | [], h => absurd rfl h
  | [x], _ => ⟨x, List.mem_cons_self .., fun y hy => by rw [List.mem_singleton] at hy; subst hy; exact Nat.le_refl _⟩
  | x :: z :: l, _ => by
    obtain ⟨y, hy, h⟩ := min_ex (ρ := ρ) (l := z :: l) (by simp)
    by_cases c : ρ x ≤ ρ y
    · refine ⟨x, List.mem_cons_self .., fun w hw => ?_⟩
      rcases List.mem_cons.mp hw with rfl | hw
      · exact Nat.le_refl _
      · exact Nat.le_trans c (h w hw)
    · refine ⟨y, List.mem_cons_of_mem _ hy, fun w hw => ?_⟩
      rcases List.mem_cons.mp hw with rfl | hw
      · omega
      · exact h w hw
theorem ring_count {S : List α} {ρ : α → Nat} {per : α → Option Nat} (ns : S.Nodup) (hp : ∀ p ∈ S, ∀ m, per p = some m ↔ Per f p m)
    (cl : ∀ p ∈ S, ∀ m, Per f p m → ∀ q ∈ orb f p m, q ∈ S) (inj : ∀ p ∈ S, ∀ q ∈ S, ρ p = ρ q → p = q) (m : Nat) :
    (S.filter fun p => decide (per p = some m)).length = m * (S.filter fun p => decide (per p = some m) && leastB f ρ m p).length := by
  have hL : ∀ p, p ∈ (S.filter fun p => decide (per p = some m) && leastB f ρ m p) ↔ p ∈ S ∧ Per f p m ∧ ∀ q ∈ orb f p m, ρ p ≤ ρ q := fun p => by
    rw [List.mem_filter, Bool.and_eq_true, least_iff, decide_eq_true_eq]
    constructor
    · rintro ⟨h1, h2, h3⟩; exact ⟨h1, (hp p h1 m).mp h2, h3⟩
    · rintro ⟨h1, h2, h3⟩; exact ⟨h1, (hp p h1 m).mpr h2, h3⟩
  have hA : ∀ p, p ∈ (S.filter fun p => decide (per p = some m)) ↔ p ∈ S ∧ Per f p m := fun p => by
    rw [List.mem_filter, decide_eq_true_eq]
    constructor
    · rintro ⟨h1, h2⟩; exact ⟨h1, (hp p h1 m).mp h2⟩
    · rintro ⟨h1, h2⟩; exact ⟨h1, (hp p h1 m).mpr h2⟩
  rw [← flat_len (g := fun p => orb f p m) (fun p hp' => orb_len fun i hi => ((hL p).mp hp').2.1.has i)]
  refine nodup_same (ns.filter _) (flat_nodup (ns.filter _) (fun p hp' => ((hL p).mp hp').2.1.nodup) fun x hx y hy z zx zy => ?_) fun q => ?_
  · obtain ⟨x1, x2, x3⟩ := (hL x).mp hx
    obtain ⟨y1, y2, y3⟩ := (hL y).mp hy
    have xy : x ∈ orb f y m := y2.sub zy x (x2.sym zx)
    have yx : y ∈ orb f x m := x2.sub zx y (y2.sym zy)
    exact inj x x1 y y1 (Nat.le_antisymm (x3 y yx) (y3 x xy))
  · rw [hA]
    constructor
    · rintro ⟨h1, h2⟩
      obtain ⟨x, hx, lx⟩ := min_ex (ρ := ρ) (l := orb f q m) (fun e => by have := h2.mem_self; rw [e] at this; cases this)
      refine List.mem_flatMap.mpr ⟨x, (hL x).mpr ⟨cl q h1 m h2 x hx, h2.of_mem hx, fun w hw => lx w (h2.sub hx w hw)⟩, h2.sym hx⟩
    · intro h
      obtain ⟨x, hx, hq⟩ := List.mem_flatMap.mp h
      obtain ⟨x1, x2, _⟩ := (hL x).mp hx
      exact ⟨cl x x1 m x2 q hq, x2.of_mem hq⟩
end
/-! ### rising lists -/
theorem rise_same : ∀ {a b : List Nat}, a.Perm b → a.Pairwise (· ≤ ·) → b.Pairwise (· ≤ ·) → a = b
  | [], b, h, _, _ => h.nil_eq
  | x :: a, [], h, _, _ => absurd h.length_eq (by simp)
  | x :: a, y :: b, h, ha, hb => by
    obtain ⟨a1, a2⟩ := List.pairwise_cons.mp ha
    obtain ⟨b1, b2⟩ := List.pairwise_cons.mp hb
    have e : x = y := by
      refine Nat.le_antisymm ?_ ?_
      · rcases List.mem_cons.mp (h.mem_iff.mpr (List.mem_cons_self (a := y) (l := b))) with e | e
        · exact Nat.le_of_eq e.symm
        · exact a1 y e
      · rcases List.mem_cons.mp (h.mem_iff.mp (List.mem_cons_self (a := x) (l := a))) with e | e
        · exact Nat.le_of_eq e.symm
        · exact b1 x e
    subst e
    rw [rise_same (List.Perm.cons_inv h) a2 b2]

/-! ## rings, by going round -/
def nxt (s : Sid) (n : N3) (p : Nat × Nat) : Option (Nat × Nat) := match asSpot (srcAt s n p.1 p.2) with
  | some r => if r.2 < nS n r.1 then some r else none
  | none => none
theorem asSpot_lt {x : Dt} {r : Nat × Nat} (hx : IsSrc x) (h : asSpot x = some r) : r.1 < 3 ∧ x = spotD r.1 r.2 := by
  rcases hx with ⟨sd, dp, h3, rfl⟩ | ⟨i, a, rfl⟩
  · rw [asSpot_spot h3] at h
    cases h
    exact ⟨h3, rfl⟩
  · rw [asSpot_typed] at h
    cases h
theorem nxt_near {s : Sid} {n : N3} (hs : SrcRows s) {p r : Nat × Nat} (hp : p.1 < 3) (h : nxt s n p = some r) : r.1 < 3 ∧ r.2 < nS n r.1 ∧ srcAt s n p.1 p.2 = spotD r.1 r.2 := by
  unfold nxt at h
  split at h
  · rename_i r' hr
    split at h
    · rename_i hlt
      cases h
      obtain ⟨h1, h2⟩ := asSpot_lt (srcAt_src hs hp) hr
      exact ⟨h1, hlt, h2⟩
    · cases h
  · cases h
def nearP (n : N3) (p : Nat × Nat) : Prop := p.1 < 3 ∧ p.2 < nS n p.1
theorem itn_near {s : Sid} {n : N3} (hs : SrcRows s) {p : Nat × Nat} (hp : nearP n p) : ∀ (i : Nat) (q : Nat × Nat), itn (nxt s n) i p = some q → nearP n q
  | 0, q, h => by cases h; exact hp
  | i + 1, q, h => by
    cases e : itn (nxt s n) i p with
    | none => unfold itn at h; rw [e] at h; cases h
    | some r =>
      unfold itn at h
      rw [e] at h
      obtain ⟨h1, h2, _⟩ := nxt_near hs (itn_near hs hp i r e).1 h
      exact ⟨h1, h2⟩
theorem spots3_mem {n : N3} {p : Nat × Nat} : p ∈ spots3 n ↔ nearP n p := by
  refine ⟨fun h => mem_spots3 h, fun ⟨h1, h2⟩ => ?_⟩
  obtain ⟨sd, dp⟩ := p
  unfold spots3
  rw [List.mem_append, List.mem_append]
  match sd, h1 with
  | 0, _ => exact .inl (.inl (List.mem_map.mpr ⟨dp, List.mem_range.mpr h2, rfl⟩))
  | 1, _ => exact .inl (.inr (List.mem_map.mpr ⟨dp, List.mem_range.mpr h2, rfl⟩))
  | 2, _ => exact .inr (List.mem_map.mpr ⟨dp, List.mem_range.mpr h2, rfl⟩)
theorem spots3_nodup (n : N3) : (spots3 n).Nodup := by
  have one : ∀ sd m : Nat, ((List.range m).map fun d => (sd, d)).Nodup := fun sd m => by
    rw [List.nodup_iff_pairwise_ne, List.pairwise_map]
    exact List.nodup_range.imp fun h e => h (by cases e; rfl)
  have apart : ∀ (sd sd' m m' : Nat), sd ≠ sd' → ∀ a ∈ (List.range m).map (fun d => (sd, d)), ∀ b ∈ (List.range m').map (fun d => (sd', d)), a ≠ b := fun sd sd' m m' h a ha b hb e => by
    obtain ⟨_, _, rfl⟩ := List.mem_map.mp ha
    obtain ⟨_, _, rfl⟩ := List.mem_map.mp hb
    cases e
    exact h rfl
  unfold spots3
  rw [List.nodup_append, List.nodup_append]
  refine ⟨⟨one 0 _, one 1 _, apart 0 1 _ _ (by decide)⟩, one 2 _, fun a ha b hb => ?_⟩
  rcases List.mem_append.mp ha with ha | ha
  · exact apart 0 2 _ _ (by decide) a ha b hb
  · exact apart 1 2 _ _ (by decide) a ha b hb
theorem orb_in {s : Sid} {n : N3} (hs : SrcRows s) {p : Nat × Nat} (hp : nearP n p) {m : Nat} : ∀ q ∈ orb (nxt s n) p m, q ∈ spots3 n := fun q hq => by
  obtain ⟨i, _, e⟩ := mem_orb.mp hq
  exact spots3_mem.mpr (itn_near hs hp i q e)
theorem per_le {s : Sid} {n : N3} (hs : SrcRows s) {p : Nat × Nat} (hp : nearP n p) {m : Nat} (h : Per (nxt s n) p m) : m ≤ sumN n := by
  have h1 := nodup_le h.nodup (orb_in hs hp)
  rw [orb_len (fun i _ => h.has i), spots3_len] at h1
  exact h1
theorem ringF_per {s : Sid} {n : N3} (hs : SrcRows s) {p : Nat × Nat} (hp : nearP n p) : ∀ (fuel m : Nat) (q : Nat × Nat), itn (nxt s n) m p = some q → (∀ j, 0 < j → j ≤ m → itn (nxt s n) j p ≠ some p) → ∀ M, ringF s n p fuel (m + 1) q = some M ↔ Per (nxt s n) p M ∧ M ≤ m + fuel
  | 0, m, q, e, hno, M => by
    unfold ringF
    refine ⟨fun h => (by cases h), fun ⟨h, hl⟩ => absurd h.2.1 (hno M h.1 hl)⟩
  | f + 1, m, q, e, hno, M => by
    have hq := itn_near hs hp m q e
    have hsrc := srcAt_src hs (n := n) (sd := q.1) (dp := q.2) hq.1
    have en : itn (nxt s n) (m + 1) p = nxt s n q := by
      show (itn (nxt s n) m p).bind (nxt s n) = _
      rw [e]
      rfl
    have low : ∀ M, Per (nxt s n) p M → m + 1 ≤ M := fun M h => by
      by_cases lt : m + 1 ≤ M
      · exact lt
      · exact absurd h.2.1 (hno M h.1 (by omega))
    unfold ringF
    cases ha : asSpot (srcAt s n q.1 q.2) with
    | none =>
      have : nxt s n q = none := by unfold nxt; rw [ha]
      rw [this] at en
      refine ⟨fun h => (by cases h), fun ⟨h, hl⟩ => ?_⟩
      obtain ⟨x, hx⟩ := h.has (m + 1)
      rw [en] at hx
      cases hx
    | some r =>
      dsimp only
      obtain ⟨r3, rx⟩ := asSpot_lt hsrc ha
      by_cases hr : r = p
      · rw [if_pos hr]
        have hn : nxt s n q = some p := by unfold nxt; rw [ha]; dsimp only; rw [if_pos (by rw [hr]; exact hp.2), hr]
        rw [hn] at en
        constructor
        · intro h
          cases h
          refine ⟨⟨Nat.succ_pos _, en, fun j h0 hj => hno j h0 (by omega)⟩, by omega⟩
        · rintro ⟨h, hl⟩
          have h1 := low M h
          by_cases hM : M = m + 1
          · rw [hM]
          · exact absurd en (h.2.2 (m + 1) (Nat.succ_pos _) (by omega))
      · rw [if_neg hr]
        by_cases hn : r.2 < nS n r.1
        · rw [if_pos (decide_eq_true hn)]
          have hx : nxt s n q = some r := by unfold nxt; rw [ha]; dsimp only; rw [if_pos hn]
          rw [hx] at en
          have := ringF_per hs hp f (m + 1) r en (fun j h0 hj => by
            by_cases hj2 : j ≤ m
            · exact hno j h0 hj2
            · have : j = m + 1 := by omega
              rw [this, en]
              intro e
              cases e
              exact hr rfl) M
          rw [this]
          exact ⟨fun ⟨a, b⟩ => ⟨a, by omega⟩, fun ⟨a, b⟩ => ⟨a, by omega⟩⟩
        · rw [if_neg (by simpa using hn)]
          have hx : nxt s n q = none := by unfold nxt; rw [ha]; dsimp only; rw [if_neg hn]
          rw [hx] at en
          refine ⟨fun h => (by cases h), fun ⟨h, hl⟩ => ?_⟩
          obtain ⟨x, hx⟩ := h.has (m + 1)
          rw [en] at hx
          cases hx
theorem ringO_per {s : Sid} {n : N3} (hs : SrcRows s) {p : Nat × Nat} (hp : nearP n p) (M : Nat) : ringO s n p = some M ↔ Per (nxt s n) p M := by
  unfold ringO
  have := ringF_per hs hp (sumN n) 0 p rfl (fun j h0 h1 => by omega) M
  rw [Nat.zero_add] at this
  rw [this, Nat.zero_add]
  exact ⟨fun h => h.1, fun h => ⟨h, per_le hs hp h⟩⟩
/-! ### spots by rank -/
def rkS : Nat → Nat
  | 0 => 1
  | 1 => 2
  | _ => 0
def rk (p : Nat × Nat) : Nat := rkS p.1 * 1000 + p.2
theorem rkS_inj : ∀ a < 3, ∀ c < 3, rkS a = rkS c → a = c := by decide
theorem rkS_le (a : Nat) : rkS a ≤ 2 := by unfold rkS; split <;> decide
theorem rk_inj {p q : Nat × Nat} (hp : p.1 < 3) (hq : q.1 < 3) (lp : p.2 < 1000) (lq : q.2 < 1000) (h : rk p = rk q) : p = q := by
  unfold rk at h
  have h1 : rkS p.1 = rkS q.1 := by omega
  have h2 : p.2 = q.2 := by omega
  exact Prod.ext (rkS_inj _ hp _ hq h1) h2
theorem side_ne : ∀ a < 3, ∀ c < 3, a ≠ c → (tx (sideS a)).cps.toList ≠ (tx (sideS c)).cps.toList := by decide +kernel
theorem side_lt : ∀ a < 3, ∀ c < 3, itemOrd.blt (.inr (tx (sideS a)).cps.toList) (.inr (tx (sideS c)).cps.toList) = decide (rkS a < rkS c) := by decide +kernel
theorem spot_lt {p q : Nat × Nat} (hp : p.1 < 3) (hq : q.1 < 3) (lp : p.2 < 1000) (lq : q.2 < 1000) : PySem.W.dataLt (spotD p.1 p.2).py (spotD q.1 q.2).py = decide (rk p < rk q) := by
  obtain ⟨a, b⟩ := p
  obtain ⟨c, d⟩ := q
  unfold rk
  dsimp only at *
  unfold spotD PySem.W.dataLt
  simp only [Dt.py, pyAll, PySem.W.keyToks, PySem.W.keyToksAll, List.cons_append, List.nil_append]
  rw [PyProof.Rows.lex_self]
  by_cases e : a = c
  · subst e
    rw [PyProof.Rows.lex_self, PyProof.Rows.lex_self]
    by_cases e2 : b = d
    · subst e2
      rw [PyProof.Rows.lex_irrefl]
      simp
    · rw [PyProof.Rows.lex_diff (O := itemOrd) (fun z => by have := Sum.inl.inj z; omega)]
      show decide ((b : Int) < (d : Int)) = _
      rw [decide_eq_decide]
      omega
  · rw [PyProof.Rows.lex_diff (O := itemOrd) (fun z => side_ne a hp c hq e (Sum.inr.inj z))]
    skip
    rw [side_lt a hp c hq, decide_eq_decide]
    have h1 := rkS_le a
    have h2 := rkS_le c
    have h3 : rkS a ≠ rkS c := fun h => e (rkS_inj a hp c hq h)
    omega

/-! ## each ring by its least spot -/
def dueP (s : Sid) (n : N3) (p : Nat × Nat) : Option Nat := match ringO s n p with
  | some m => if leastB (nxt s n) rk m p = true then some m else none
  | none => none
def dueL (ks : List Ky) : List Nat := (spots3 (farN ks)).filterMap (dueP (farS ks) (farN ks))
theorem ringsL_cnt (os : List (Option Nat)) (m : Nat) : ∀ j, (ringsL os j).count m = if 1 ≤ m ∧ m ≤ j then os.count (some m) / m else 0
  | 0 => by rw [if_neg (by omega)]; rfl
  | j + 1 => by
    rw [ringsL_succ, List.count_append, ringsL_cnt os m j, List.count_replicate]
    by_cases e : m = j + 1
    · rw [if_neg (show ¬ (1 ≤ m ∧ m ≤ j) by omega), if_pos (show (j + 1 == m) = true by simp [e]), if_pos (show 1 ≤ m ∧ m ≤ j + 1 by omega), e, Nat.zero_add]
    · rw [if_neg (show ¬ ((j + 1 == m) = true) by simpa using fun h => e h.symm), Nat.add_zero]
      by_cases h : 1 ≤ m ∧ m ≤ j
      · rw [if_pos h, if_pos (by omega)]
      · rw [if_neg h, if_neg (by omega)]
theorem ringsL_mem (os : List (Option Nat)) : ∀ j, ∀ x ∈ ringsL os j, x ≤ j
  | 0, x, h => by cases h
  | j + 1, x, h => by
    rw [ringsL_succ] at h
    rcases List.mem_append.mp h with h | h
    · have := ringsL_mem os j x h
      omega
    · rw [List.eq_of_mem_replicate h]
      exact Nat.le_refl _
theorem ringsL_rise (os : List (Option Nat)) : ∀ j, (ringsL os j).Pairwise (· ≤ ·)
  | 0 => .nil
  | j + 1 => by
    rw [ringsL_succ, List.pairwise_append]
    refine ⟨ringsL_rise os j, List.pairwise_replicate.mpr (.inr (Nat.le_refl _)), fun a ha b hb => ?_⟩
    rw [List.eq_of_mem_replicate hb]
    have := ringsL_mem os j a ha
    show a ≤ j + 1
    omega
theorem cnt_filterMap {α : Type} (f : α → Option Nat) (m : Nat) : ∀ l : List α, (l.filterMap f).count m = (l.filter fun p => decide (f p = some m)).length
  | [] => rfl
  | p :: l => by
    rw [List.filterMap_cons, List.filter_cons]
    cases e : f p with
    | none =>
      rw [if_neg (by simp)]
      exact cnt_filterMap f m l
    | some x =>
      dsimp only
      rw [List.count_cons, cnt_filterMap f m l]
      by_cases h : x = m
      · rw [if_pos (by simp [h]), if_pos (by simp [h]), List.length_cons]
      · rw [if_neg (by simpa using h), if_neg (by simpa using h), Nat.add_zero]
theorem cnt_map {α : Type} (f : α → Option Nat) (m : Nat) : ∀ l : List α, (l.map f).count (some m) = (l.filter fun p => decide (f p = some m)).length
  | [] => rfl
  | p :: l => by
    rw [List.map_cons, List.filter_cons, List.count_cons, cnt_map f m l]
    by_cases h : f p = some m
    · rw [if_pos (by simp [h]), if_pos (by simp [h]), List.length_cons]
    · rw [if_neg (by simpa using h), if_neg (by simpa using h), Nat.add_zero]
theorem due_perm {ks : List Ky} (gk : GoodH ks) : (dueL ks).Perm (ringsL (founds ks) (founds ks).length) := by
  rw [List.perm_iff_count]
  intro m
  have hs : SrcRows (farS ks) := tab_srcs ks _ _ _
  have n1 := nr_le true gk
  have n2 := nr_le false gk
  have n3 := held_le gk
  have lt : ∀ p, nearP (farN ks) p → p.2 < 1000 := fun p ⟨h1, h2⟩ => by
    obtain ⟨a, b⟩ := p
    dsimp only at h1 h2
    match a, h1 with
    | 0, _ => have h2 : b < nr true ks := h2; show b < 1000; omega
    | 1, _ => have h2 : b < nr false ks := h2; show b < 1000; omega
    | 2, _ => have h2 : b < heldK ks := h2; show b < 1000; omega
  have rc := ring_count (S := spots3 (farN ks)) (f := nxt (farS ks) (farN ks)) (ρ := rk) (per := ringO (farS ks) (farN ks)) (spots3_nodup _) (fun p hp M => ringO_per hs (spots3_mem.mp hp) M) (fun p hp M h q hq => orb_in hs (spots3_mem.mp hp) q hq)
    (fun p hp q hq h => rk_inj (spots3_mem.mp hp).1 (spots3_mem.mp hq).1 (lt p (spots3_mem.mp hp)) (lt q (spots3_mem.mp hq)) h) m
  have e1 : (dueL ks).count m = ((spots3 (farN ks)).filter fun p => decide (ringO (farS ks) (farN ks) p = some m) && leastB (nxt (farS ks) (farN ks)) rk m p).length := by
    unfold dueL
    rw [cnt_filterMap]
    congr 1
    refine List.filter_congr fun p _ => ?_
    unfold dueP
    cases e : ringO (farS ks) (farN ks) p with
    | none => simp
    | some x =>
      dsimp only
      by_cases hx : x = m
      · subst hx
        by_cases hl : leastB (nxt (farS ks) (farN ks)) rk x p = true <;> simp [hl]
      · by_cases hl : leastB (nxt (farS ks) (farN ks)) rk x p = true <;> simp [hl, hx]
  have e2 : (founds ks).count (some m) = ((spots3 (farN ks)).filter fun p => decide (ringO (farS ks) (farN ks) p = some m)).length := by
    unfold founds
    exact cnt_map _ m _
  have fl : (founds ks).length = sumN (farN ks) := by unfold founds; rw [List.length_map, spots3_len]
  rw [ringsL_cnt, e1, e2, rc]
  split
  · rename_i h
    rw [Nat.mul_div_cancel_left _ (by omega)]
  · rename_i h
    rw [List.length_eq_zero_iff, List.filter_eq_nil_iff]
    intro p hp hh
    rw [Bool.and_eq_true, decide_eq_true_eq] at hh
    have hp' := spots3_mem.mp hp
    have per := (ringO_per hs hp' m).mp hh.1
    have := per_le hs hp' per
    have := per.1
    rw [fl] at h
    omega
theorem due_is {ks : List Ky} (gk : GoodH ks) {ns : List Int} (pm : ns.Perm ((dueL ks).map fun m : Nat => (m : Int))) (pw : ns.Pairwise (· ≤ ·)) : ns = (ringsL (founds ks) (founds ks).length).map fun m : Nat => (m : Int) := by
  obtain ⟨rs, h1, rfl⟩ := perm_lift pm
  rw [List.pairwise_map] at pw
  rw [rise_same (h1.trans (due_perm gk)) (pw.imp fun h => by omega) (ringsL_rise _ _)]

/-! ## from a spot on, back from pressing to pressing -/
def RowOf (s : Sid) (n : N3) (p : Nat × Nat) (qs : List (Nat × Nat)) (x : Dt) : Prop := (∃ m, Per (nxt s n) p m ∧ qs = orb (nxt s n) p m ∧ x = spotD p.1 p.2) ∨ ((∀ m, ¬ Per (nxt s n) p m) ∧ x ≠ spotD p.1 p.2)
structure At37 (s : Sid) (n : N3) (p : Nat × Nat) (j : Nat) (x : Dt) : Prop where
  dis : ∀ a b q, a < b → b < j → itn (nxt s n) a p = some q → itn (nxt s n) b p = some q → False
  has : ∀ i, i < j → ∃ q, itn (nxt s n) i p = some q
  src : IsSrc x
  prev : 0 < j → ∃ r : Nat × Nat, itn (nxt s n) (j - 1) p = some r ∧ x = srcAt s n r.1 r.2
  now : (∃ r : Nat × Nat, x = spotD r.1 r.2 ∧ r.1 < 3 ∧ itn (nxt s n) j p = some r) ∨ (isNr n x = false ∧ itn (nxt s n) j p = none)
theorem nxt_src {s : Sid} {n : N3} (hs : SrcRows s) {r : Nat × Nat} (h3 : r.1 < 3) : (∃ r' : Nat × Nat, srcAt s n r.1 r.2 = spotD r'.1 r'.2 ∧ r'.1 < 3 ∧ nxt s n r = some r') ∨ (isNr n (srcAt s n r.1 r.2) = false ∧ nxt s n r = none) := by
  have hx := srcAt_src hs (n := n) (sd := r.1) (dp := r.2) h3
  unfold nxt
  generalize srcAt s n r.1 r.2 = x at hx
  rcases hx with ⟨sd, dp, h, rfl⟩ | ⟨i, a, rfl⟩
  · rw [asSpot_spot h]
    dsimp only
    by_cases hn : dp < nS n sd
    · rw [if_pos hn]
      exact .inl ⟨(sd, dp), rfl, h, rfl⟩
    · rw [if_neg hn]
      exact .inr ⟨by rw [near_spot h]; exact decide_eq_false hn, rfl⟩
  · rw [asSpot_typed]
    exact .inr ⟨near_typed, rfl⟩
theorem at37_0 {s : Sid} {n : N3} {p : Nat × Nat} (hp : nearP n p) : At37 s n p 0 (spotD p.1 p.2) := ⟨fun a b q h1 h2 => by omega, fun i h => by omega, .inl ⟨p.1, p.2, hp.1, rfl⟩, fun h => absurd h (Nat.lt_irrefl 0), .inl ⟨p, rfl, hp.1, rfl⟩⟩
theorem At37.near {s : Sid} {n : N3} (hs : SrcRows s) {p : Nat × Nat} (hp : nearP n p) {j : Nat} {x : Dt} (h : At37 s n p j x) : ∀ q ∈ orb (nxt s n) p j, nearP n q := fun q hq => spots3_mem.mp (orb_in hs hp q hq)
theorem At37.len {s : Sid} {n : N3} (hs : SrcRows s) {p : Nat × Nat} (hp : nearP n p) {j : Nat} {x : Dt} (h : At37 s n p j x) : (orb (nxt s n) p j).length = j ∧ j ≤ sumN n := by
  have l := orb_len h.has
  have := nodup_le (orb_nodup h.dis) (orb_in hs hp)
  rw [spots3_len, l] at this
  exact ⟨l, this⟩
theorem At37.step {s : Sid} {n : N3} (hs : SrcRows s) {p : Nat × Nat} (hp : nearP n p) {j : Nat} {r : Nat × Nat} (h : At37 s n p j (spotD r.1 r.2)) (h3 : r.1 < 3) (hn : isNr n (spotD r.1 r.2) = true) (hno : spotD r.1 r.2 ∉ (orb (nxt s n) p j).map fun q => spotD q.1 q.2) :
    At37 s n p (j + 1) (srcAt s n r.1 r.2) ∧ orb (nxt s n) p (j + 1) = orb (nxt s n) p j ++ [r] := by
  have e : itn (nxt s n) j p = some r := by
    rcases h.now with ⟨r', e1, e2, e3⟩ | ⟨e1, _⟩
    · have := (spot_inj e2 h3).mp e1
      rw [this]
      exact e3
    · rw [hn] at e1; cases e1
  have en : itn (nxt s n) (j + 1) p = nxt s n r := by
    show (itn (nxt s n) j p).bind (nxt s n) = _
    rw [e]
    rfl
  refine ⟨⟨fun a b q h1 h2 ha hb => ?_, fun i hi => ?_, srcAt_src hs h3, fun _ => ⟨r, e, rfl⟩, ?_⟩, orb_succ e⟩
  · by_cases hb2 : b < j
    · exact h.dis a b q h1 hb2 ha hb
    · have : b = j := by omega
      rw [this, e] at hb
      cases hb
      exact hno (List.mem_map.mpr ⟨r, mem_orb.mpr ⟨a, by omega, ha⟩, rfl⟩)
  · by_cases hi2 : i < j
    · exact h.has i hi2
    · have : i = j := by omega
      rw [this]
      exact ⟨r, e⟩
  · rw [en]
    exact nxt_src hs h3
theorem At37.back {s : Sid} {n : N3} (hs : SrcRows s) {p : Nat × Nat} (hp : nearP n p) {j : Nat} {x : Dt} (h : At37 s n p j x) (hin : x ∈ (orb (nxt s n) p j).map fun q => spotD q.1 q.2) : RowOf s n p (orb (nxt s n) p j) x := by
  obtain ⟨q, hq, rfl⟩ := List.mem_map.mp hin
  have nq := h.near hs hp q hq
  obtain ⟨i, hi, ei⟩ := mem_orb.mp hq
  have ej : itn (nxt s n) j p = some q := by
    rcases h.now with ⟨r', e1, e2, e3⟩ | ⟨e1, _⟩
    · have := (spot_inj e2 nq.1).mp e1
      rw [this]
      exact e3
    · rw [near_spot nq.1, decide_eq_true nq.2] at e1; cases e1
  by_cases e : q = p
  · subst e
    refine .inl ⟨j, ⟨by omega, ej, fun k h0 hk ek => h.dis 0 k q h0 hk rfl ek⟩, rfl, rfl⟩
  · refine .inr ⟨fun m hm => ?_, fun e2 => e ((spot_inj hp.1 nq.1).mp e2)⟩
    rcases Nat.lt_trichotomy m j with l | l | l
    · exact h.dis 0 m p hm.1 l rfl hm.2.1
    · rw [← l, hm.2.1] at ej
      cases ej
      exact e rfl
    · exact hm.inj hi l ei ej
theorem At37.off {s : Sid} {n : N3} (hs : SrcRows s) {p : Nat × Nat} (hp : nearP n p) {j : Nat} {x : Dt} (h : At37 s n p j x) (hn : isNr n x = false) : RowOf s n p (orb (nxt s n) p j) x := by
  have no : itn (nxt s n) j p = none := by
    rcases h.now with ⟨r', e1, e2, e3⟩ | ⟨_, e⟩
    · have := itn_near hs hp j r' e3
      rw [e1, near_spot this.1, decide_eq_true this.2] at hn
      cases hn
    · exact e
  refine .inr ⟨fun m hm => ?_, fun e => ?_⟩
  · obtain ⟨y, hy⟩ := hm.has j
    rw [no] at hy
    cases hy
  · rw [e, near_spot hp.1, decide_eq_true hp.2] at hn
    cases hn
theorem spots_deep (qs : List (Nat × Nat)) : Plns (qs.map fun q => spotD q.1 q.2) = true ∧ deep (.lst (qs.map fun q => spotD q.1 q.2)) ≤ 64 := by
  refine ⟨plns_of fun d hd => ?_, ?_⟩
  · obtain ⟨q, _, rfl⟩ := List.mem_map.mp hd
    exact spot_pln.1
  · have : deepAll (qs.map fun q => spotD q.1 q.2) ≤ 1 := by
      induction qs with
      | nil => exact Nat.zero_le _
      | cons q qs ih =>
        show max (deep (spotD q.1 q.2)) (deepAll (qs.map fun q => spotD q.1 q.2)) ≤ 1
        have : deep (spotD q.1 q.2) = 1 := by unfold spotD deep deepAll deepAll deepAll deep; rfl
        omega
    unfold deep
    omega
theorem idx_side {sd : Nat} (h : sd < 3) {F : Nat → Prop} (q : F sd) : ∃ (j : Nat) (z : V), [V.str (tx (cd "left")), V.str (tx (cd "right")), V.str (tx (cd "clip"))][j]? = some z ∧ eqV z (V.str (tx (sideS sd))) = true ∧ (∀ (m : Nat) (z' : V), m < j → [V.str (tx (cd "left")), V.str (tx (cd "right")), V.str (tx (cd "clip"))][m]? = some z' → eqV z' (V.str (tx (sideS sd))) = false) ∧ F j := by
  match sd, h with
  | 0, _ => exact ⟨0, _, rfl, by decide +kernel, fun m z' h => by omega, q⟩
  | 1, _ =>
    refine ⟨1, _, rfl, by decide +kernel, fun m z' h e => ?_, q⟩
    have : m = 0 := by omega
    subst this
    cases e
    decide +kernel
  | 2, _ =>
    refine ⟨2, _, rfl, by decide +kernel, fun m z' h e => ?_, q⟩
    by_cases h0 : m = 0
    · subst h0
      cases e
      decide +kernel
    · have : m = 1 := by omega
      subst this
      cases e
      decide +kernel
theorem side_typed {sd : Nat} (h : sd < 3) : sideS sd ≠ cd "typed" := by
  match sd, h with
  | 0, _ | 1, _ | 2, _ => decide +kernel
theorem ixW_tab {C : Cs} {ks : List Ky} {L R c sd : Nat} (h : sd < 3) : ixW C (.d (tabT ks L R c)) (.d (.int (sd : Int))) = some (.d (.lst (rowS (tabD ks L R c) sd))) := by
  match sd, h with
  | 0, _ => exact ixW_row (d := tabT ks L R c) rfl rfl
  | 1, _ => exact ixW_row (d := tabT ks L R c) rfl rfl
  | 2, _ => exact ixW_row (d := tabT ks L R c) rfl rfl

/-! ## what a hand prints -/
/-- over n things of a row that stays, each told by f; a list of one's own -/
theorem DLc.overO {J : ItD} {g : TDG} {t : TDT} {e : TD} {ρ0 : Ws} {C : Cs} {Q : W → Cs → Prop} (n : Nat) (it : Nat → W) (f : Nat → Option Dt) (hn : n ≤ 16777216) (hJ : ∀ i acc, J i (C ++ [.lst acc]) (if i < n then some (it i) else none))
    (hs : ∀ i acc (R : W → Cs → Prop) (S : Cs → Prop), i < n → (match f i with | some x => R (.d x) (C ++ [.lst acc]) | none => S (C ++ [.lst acc])) → g (it i) ρ0 (C ++ [.lst acc]) fun ρ2 C2 => t ρ2 C2 fun b C3 => if b = true then e ρ2 C3 R else S C3) (q : Q (.o C.length) (C ++ [.lst (((List.range n).filterMap f).map W.d)])) :
    DLc J g t e ρ0 C C.length (fun w C' => Fin C w C' Q) := by
  have last : ∀ (c : Cell), (C ++ [c])[C.length]? = some c := fun c => List.getElem?_concat_length
  have put : ∀ (c x : Cell), (C ++ [c]).set C.length x = C ++ [x] := fun c x => by rw [List.set_append_right _ _ (Nat.le_refl _), Nat.sub_self]; rfl
  refine ⟨fun i m C' => m = n - i ∧ i ≤ n ∧ C' = C ++ [.lst (((List.range i).filterMap f).map W.d)], ⟨n, rfl, Nat.zero_le _, rfl⟩, ?_⟩
  rintro i m C' ⟨rfl, hi, rfl⟩
  have hj := hJ i (((List.range i).filterMap f).map W.d)
  by_cases lt : i < n
  · rw [if_pos lt] at hj
    have next : List.range (i + 1) = List.range i ++ [i] := List.range_succ
    refine .inr ⟨it i, hj, fun C' => C' = C ++ [.lst (((List.range (i + 1)).filterMap f).map W.d)], fun C' e => ⟨n - (i + 1), by omega, rfl, lt, e⟩, hs i _ _ _ lt ?_⟩
    cases e : f i with
    | some x =>
      refine ⟨_, last _, ?_, ?_⟩
      · rw [List.length_map]
        have := List.length_filterMap_le f (List.range i)
        rw [List.length_range] at this
        omega
      · rw [put, next, List.filterMap_append, List.map_append]
        simp only [List.filterMap_cons, e, List.filterMap_nil, List.map_cons, List.map_nil]
    | none =>
      show _ = C ++ [Cell.lst (((List.range (i + 1)).filterMap f).map W.d)]
      rw [next, List.filterMap_append]
      simp only [List.filterMap_cons, e, List.filterMap_nil, List.append_nil]
  · rw [if_neg lt] at hj
    have en : i = n := by omega
    subst en
    exact .inl ⟨hj, .inr (.inr ⟨_, _, _, C, _, rfl, last _, allD_map _, Nat.le_refl _, rfl, .refl C, .inr q⟩)⟩
def firstR : Dt := .tup [.str (cd "first"), .str (cd "right")]
def ringT (o : Option Nat) : Dt := .tup [.str (cd "ring"), optN o]
def prF (s : Sid) (n : N3) : Nat → Nat × Nat → Dt
  | 0, q => ringT (ringO s n q)
  | f + 1, q => match asSpot (srcAt s n q.1 q.2) with
    | some r => if decide (r.2 < nS n r.1) = true then prF s n f r else firstR
    | none => srcAt s n q.1 q.2
def printD (s : Sid) (n : N3) (p : Nat × Nat) : Dt := prF s n (sumN n + 1) p
def spPrintAt (c : Addr) : SpD := fun ws C Q _ => ∃ (i sd dp : Nat) (s : Sid) (n : N3), ws = [.o i, .d (spotD sd dp)] ∧ FarP c C i s n ∧ sd < 3 ∧ SrcRows s ∧ sumN n ≤ 1000 ∧ Q (.d (printD s n (sd, dp))) C
theorem side_typed' : ∀ sd < 3, sideS sd ≠ cd "typed" := by decide +kernel
theorem ok_Far_print_at (T : Txt K mg w) : FnOk P w K mg base CX0 4 T.f_Far_print_at.f T.f_Far_print_at.fd ["self", "spot"] (lft K (spPrintAt T.k_Far.C)) := by
  refine okD T.f_Far_print_at.F sc_Far_print_at (fun ws C Q X h => ?_) (fun cv A out s H E hr => ⟨_, (pss_cons (ps_for PassesOwn.never rfl (pi_range1 (by rfl) T.b_range (pa_cons (pe_op (q_addA K) (pe_callB (q_sumA K rfl) (by rfl) T.b_sum (by decide +kernel) (pa_cons (pe_fldC T.k_Far.cl T.n_Far_near (pv 0)) pa_nil)) pe_int) pa_nil)) (pg_name (i := 2) sc_Far_print_at.nd rfl (.inl rfl))
        (pss_cons (ps_set (i := 1) sc_Far_print_at.nd rfl (.inl rfl) (pe_meth (pv 0) T.k_Far.cl T.f_Far_source.m (ok_Far_source T) (hr.mono (by first | decide | omega)) T.f_Far_source.b .nil pass0 (pa_cons (pv 1) pa_nil)))
      (pss_cons (ps_if (pt_cmpR (q_eqA K hr.units) (pe_ix (ix_seqK K) (pv 1) pe_int (fun _ _ => rfl)) pe_strL (nomark _)) (pss_one (ps_ret (pv 1))) pss_nil)
      (pss_one (ps_if (pt_not (pt_val (pe_meth (pv 0) T.k_Far.cl T.f_Far_is_near.m (ok_Far_is_near T) (hr.mono (by first | decide | omega)) T.f_Far_is_near.b .nil pass0 (pa_cons (pv 1) pa_nil)))) (pss_one (ps_ret (pe_tup (pa_cons pe_strL (pa_cons pe_strL pa_nil))))) pss_nil)))))
      (pss_one (ps_ret (pe_tup (pa_cons pe_strL (pa_cons (pe_meth (pv 0) T.k_Far.cl T.f_Far_ring_at.m (ok_Far_ring_at T) (hr.mono (by first | decide | omega)) T.f_Far_ring_at.b .nil pass0 (pa_cons (pv 1) pa_nil)) pa_nil)))))), _, inferInstance, fun ws C Q X h => ?_⟩)
  · obtain ⟨i, sd, dp, s, n, rfl, _⟩ := h
    rfl
  obtain ⟨i, sd, dp, s, n, rfl, fp, hsd, hs, hn, q⟩ := h
  obtain ⟨t, l, r, h, hi, tab⟩ := id fp
  walk_at "dw"
  rw [hi]
  dsimp only
  rw [fld_near]
  dsimp only
  refine ⟨rfl, ?_⟩
  rw [show rowW C (.d (nT n)) = some [.d (.int (n.1 : Nat)), .d (.int (n.2.1 : Nat)), .d (.int (n.2.2 : Nat))] from rfl]
  dsimp only
  rw [show selI [W.d (.int (n.1 : Nat)), .d (.int (n.2.1 : Nat)), .d (.int (n.2.2 : Nat))] = some [((n.1 : Nat) : Int), ((n.2.1 : Nat) : Int), ((n.2.2 : Nat) : Int)] from rfl]
  walk_at "dw"
  have es : (([((n.1 : Nat) : Int), ((n.2.1 : Nat) : Int), ((n.2.2 : Nat) : Int)] : List Int).sum + 1).toNat = sumN n + 1 := by
    unfold sumN
    simp only [List.sum_cons, List.sum_nil]
    omega
  have eb : (([((n.1 : Nat) : Int), ((n.2.1 : Nat) : Int), ((n.2.2 : Nat) : Int)] : List Int).sum + 1) = ((sumN n + 1 : Nat) : Int) := by
    unfold sumN
    simp only [List.sum_cons, List.sum_nil]
    omega
  rw [eb]
  refine ⟨⟨by omega, by omega⟩, ?_⟩
  rw [Int.toNat_natCast]
  refine DFor.range (fun j ρ C' => C' = C ∧ ∃ (p : Nat × Nat) (y : Option W), ρ = [some (.o i), some (.d (spotD p.1 p.2)), y] ∧ p.1 < 3 ∧ prF s n (sumN n + 1 - j) p = printD s n (sd, dp)) ⟨rfl, (sd, dp), none, rfl, hsd, rfl⟩ ?_ ?_
  · rintro ρ C' ⟨rfl, p, y, rfl, hp, hr⟩
    rw [Nat.sub_self] at hr
    have hr : ringT (ringO s n p) = printD s n (sd, dp) := hr
    walk_at "dw"
    rw [hi]
    dsimp only
    refine ⟨rfl, no_fld (by decide +kernel) (by decide +kernel), i, p.1, p.2, s, n, rfl, fp, hp, hs, by omega, ?_⟩
    rw [← hr] at q
    walk_at "dw"
    exact ret.same q
  · rintro j ρ C' hj ⟨rfl, p, y, rfl, hp, hr⟩
    obtain ⟨f, hf⟩ : ∃ f, sumN n + 1 - j = f + 1 := ⟨sumN n - j, by omega⟩
    have hf2 : sumN n + 1 - (j + 1) = f := by omega
    rw [hf] at hr
    unfold prF at hr
    walk_at "dw"
    rw [hi]
    dsimp only
    refine ⟨rfl, no_fld (by decide +kernel) (by decide +kernel), i, p.1, p.2, s, n, rfl, fp, hp, ?_⟩
    have hsrc := srcAt_src hs (n := n) (sd := p.1) (dp := p.2) hp
    generalize srcAt s n p.1 p.2 = x at hr hsrc
    walk_at "dw"
    rcases hsrc with ⟨sd', dp', h3, rfl⟩ | ⟨i', a', rfl⟩
    · rw [asSpot_spot h3] at hr
      dsimp only at hr
      rw [ixW_row (d := spotD sd' dp') (x := .str (sideS sd')) rfl rfl]
      dsimp only
      walk_at "dw"
      rw [if_neg (by rw [decide_eq_false (side_typed' sd' h3)]; decide)]
      rw [hi]
      dsimp only
      refine ⟨rfl, no_fld (by decide +kernel) (by decide +kernel), i, spotD sd' dp', s, n, rfl, fp, .inl ⟨sd', dp', h3, rfl⟩, ?_⟩
      dsimp only
      rw [near_spot h3]
      by_cases hlt : dp' < nS n sd'
      · rw [if_pos (decide_eq_true hlt)] at hr
        rw [decide_eq_true hlt]
        exact iteF ⟨rfl, (sd', dp'), _, rfl, h3, by rw [hf2]; exact hr⟩
      · rw [if_neg (by simpa using hlt)] at hr
        rw [decide_eq_false hlt]
        rw [← hr] at q
        exact iteT (ret.same q)
    · rw [asSpot_typed] at hr
      rw [ixW_row (d := typedD i' a') (x := .str (cd "typed")) rfl rfl]
      dsimp only
      walk_at "dw"
      rw [← hr] at q
      exact ret.same q
def prL (s : Sid) (n : N3) : List Dt := (List.range (s.l.length - n.1)).map fun k => printD s n (0, s.l.length - 1 - k)
def spPrints (c : Addr) : SpD := fun ws C Q _ => ∃ (i : Nat) (s : Sid) (n : N3), ws = [.o i] ∧ FarP c C i s n ∧ SrcRows s ∧ sumN n ≤ 1000 ∧ s.l.length ≤ 100000 ∧ Q (.o C.length) (C ++ [.lst ((prL s n).map W.d)])
theorem ok_Far_prints (T : Txt K mg w) : FnOk P w K mg base CX0 5 T.f_Far_prints.f T.f_Far_prints.fd ["self"] (lft K (spPrints T.k_Far.C)) := by
  refine okD T.f_Far_prints.F sc_Far_prints (fun ws C Q X h => ?_) (fun cv A out s H E hr => ⟨_, (pss_one (ps_ret (pe_lcK [1] (pe_lc (own := [("deep", 1)]) rfl sc_Far_prints.nd (pi_range3 (by rfl) T.b_range (pa_cons (pe_op op_sub (pe_callB (call_lenK K) (by rfl) T.b_len (by decide +kernel) (pa_cons (pe_ix (ix_seqK K) (pe_fldC T.k_Far.cl T.n_Far_rows (pv 0)) pe_int (fun _ _ => rfl)) pa_nil)) pe_int) (pa_cons (pe_op op_sub (pe_ix (ix_seqK K) (pe_fldC T.k_Far.cl T.n_Far_near (pv 0)) pe_int (fun _ _ => rfl)) pe_int) (pa_cons (pe_un un_neg pe_int) pa_nil)))) (blkOk_by (own := [("deep", 1)]) (N := N_Far_prints) (sc := defScope s_Far_prints) (by decide +kernel)) (fun _ _ _ _ _ => (pg_name (i := 1) sc_Far_prints.nd rfl (.inl rfl))) (fun _ _ _ _ _ => pts_nil) (fun _ _ _ _ _ => (pe_meth (pv 0) T.k_Far.cl T.f_Far_print_at.m (ok_Far_print_at T) (hr.mono (by first | decide | omega)) T.f_Far_print_at.b .nil pass0 (pa_cons (pe_tup (pa_cons pe_strL (pa_cons (pv 1) pa_nil))) pa_nil))))))), _, inferInstance, fun ws C Q X h => ?_⟩)
  · obtain ⟨i, s, n, rfl, _⟩ := h
    rfl
  obtain ⟨i, s, n, rfl, fp, hs, hn, hl, q⟩ := h
  obtain ⟨t, l, r, h, hi, tab⟩ := id fp
  walk_at "dw"
  rw [hi]
  dsimp only
  rw [fld_rows]
  dsimp only
  rw [ixW_4, rowW_3, tab.row]
  dsimp only
  rw [show atI [W.o l, W.o r, W.o h] 0 = some (.o l) from rfl]
  dsimp only
  rw [lenW_4, rowW_3, tab.l]
  dsimp only
  rw [fld_near]
  dsimp only
  rw [show ixW C (.d (nT n)) (.d (.int 0)) = some (.d (.int (n.1 : Nat))) from ixW_row (d := nT n) rfl rfl]
  dsimp only
  rw [List.length_map]
  have hn1 : n.1 ≤ 1000 := by unfold sumN at hn; omega
  refine ⟨rfl, rfl, ⟨⟨by omega, by omega⟩, by omega, by omega⟩, ?_⟩
  have en : ((s.l.length : Int) - 1 - ((n.1 : Int) - 1)).toNat = s.l.length - n.1 := by omega
  rw [en]
  refine DLc.overO (s.l.length - n.1) _ (fun k => some (printD s n (0, s.l.length - 1 - k))) (by omega) (fun k acc => itRngC_if k _) ?_ ?_
  · intro k acc R S hk hR
    have hR : R (.d (printD s n (0, s.l.length - 1 - k))) (C ++ [.lst acc]) := hR
    walk_at "dw"
    rw [app_at hi]
    dsimp only
    have ek : (s.l.length : Int) - 1 + (k : Int) * -1 = ((s.l.length - 1 - k : Nat) : Int) := by omega
    rw [ek]
    exact ⟨rfl, no_fld (by decide +kernel) (by decide +kernel), i, 0, s.l.length - 1 - k, s, n, rfl, fp.app, by decide, hs, hn, hR⟩
  · have e : (List.range (s.l.length - n.1)).filterMap (fun k => some (printD s n (0, s.l.length - 1 - k))) = prL s n := by
      unfold prL
      rw [show (fun k => some (printD s n (0, s.l.length - 1 - k))) = some ∘ (fun k => printD s n (0, s.l.length - 1 - k)) from rfl, ← List.filterMap_map, List.filterMap_some]
    rw [e]
    exact ret.same q
def printsK (ks : List Ky) : List Dt := prL (farS ks) (farN ks)
theorem tab_len {ks : List Ky} (gk : GoodH ks) : (farS ks).l.length ≤ 4000 := by
  have n1 := nr_le true gk
  have n2 := nr_le false gk
  have fw := gk.few
  have h := (tabL_size (L := nr true ks) (R := nr false ks) (c := heldK ks) gk (by omega) (by omega) (held_le gk) (Nat.le_refl ks.length)).1
  unfold farS tabD
  rw [List.length_reverse]
  omega
def spPrintsF : SpD := fun ws C Q _ => ∃ (w : W) (d : Dt) (ks : List Ky), ws = [w] ∧ HandW C w d ∧ isHandOf d ks ∧ Q (.o C.length) (C ++ [.lst ((printsK ks).map W.d)])
theorem ok_prints (T : Txt K mg w) : FnOk P w K mg base CX0 7 T.f_prints.f T.f_prints.fd ["hand"] (lft K spPrintsF) := by
  refine okD T.f_prints.F sc_prints (fun ws C Q X h => ?_) (fun cv A out s H E hr => ⟨_, (pss_cons (ps_expr (pe_call (okD_check_hand T) (hr.mono (by first | decide | omega)) (by rfl) T.f_check_hand.g T.f_check_hand.F.kp T.f_check_hand.b .nil pass0 (pa_cons (pv 0) pa_nil)))
      (pss_one (ps_ret (pe_meth0 (pe_make ⟨T.k_Far.mkk, T.f_Far___init__.m.at_, T.f_Far___init__.m.fn, T.k_Far.kp⟩ (ok_Far___init__ T) (hr.mono (by first | decide | omega)) (by rfl) T.k_Far.g T.f_Far___init__.b .nil pass0 (pa_cons (pv 0) pa_nil)) T.k_Far.cl T.f_Far_prints.m (ok_Far_prints T) (hr.mono (by first | decide | omega)) T.f_Far_prints.b .nil pass0)))), _, inferInstance, fun ws C Q X h => ?_⟩)
  · obtain ⟨w, d, ks, rfl, _⟩ := h
    rfl
  obtain ⟨w, d, ks, rfl, hw, hd, q⟩ := h
  walk_at "dw"
  have gk := hd.2
  refine ⟨[d], rdss1 hw.rds, ⟨d, ks, rfl, hd⟩, C.length, w, d, ks, rfl, last_at, ?_, hd, fun C2 ext far => ?_⟩
  · rcases hw with rfl | ⟨k, ds, rfl, rfl, hc⟩
    · exact .inl rfl
    · exact .inr ⟨k, ds, rfl, rfl, app_at hc⟩
  have ext2 : ∀ (j : Nat) c, C[j]? = some c → C2[j]? = some c := fun j c hc => ext j c (Nat.ne_of_lt (lt_at hc)) (app_at hc)
  have fp : FarP T.k_Far.C C2 C.length (farS ks) (farN ks) := FarP.of far
  have hnl := nr_le true gk
  have hnr := nr_le false gk
  have hnh := held_le gk
  have hsum : sumN (farN ks) ≤ 180 := by
    show nr true ks + nr false ks + heldK ks ≤ 180
    omega
  have hlen := tab_len gk
  obtain ⟨t, l, r, h, hi, tab⟩ := id fp
  refine ⟨rfl, ?_⟩
  rw [hi]
  dsimp only
  refine ⟨rfl, no_fld (by decide +kernel) (by decide +kernel), C.length, farS ks, farN ks, rfl, fp, tab_srcs _ _ _ _, by omega, by omega, ?_⟩
  obtain ⟨ex2, hex2⟩ := ext_split ext2
  have hc : (C2 ++ [Cell.lst ((prL (farS ks) (farN ks)).map W.d)])[C2.length]? = some (.lst ((prL (farS ks) (farN ks)).map W.d)) := last_at
  rw [hex2] at hc ⊢
  rw [List.append_assoc] at hc ⊢
  exact ret.own (by rw [List.length_append]; omega) hc q

/-! ## where what is printed comes to -/
structure AllR (P : Dt → Prop) (s : Sid) : Prop where
  l : ∀ x ∈ s.l, P x
  r : ∀ x ∈ s.r, P x
  c : ∀ x ∈ s.c, P x
theorem all_near {P : Dt → Prop} {n : Nat} {x : List Dt} (h : ∀ y ∈ x, P y) : (∀ y ∈ nearD n x, P y) ∧ ∀ y ∈ farD n x, P y :=
  ⟨fun y hy => h y (List.mem_of_mem_drop (List.mem_reverse.mp hy)), fun y hy => h y (List.mem_of_mem_take hy)⟩
theorem all_app {P : Dt → Prop} {x z : List Dt} (h : ∀ y ∈ x, P y) (k : ∀ y ∈ z, P y) : ∀ y ∈ x ++ z, P y := fun y hy => (List.mem_append.mp hy).elim (h y) (k y)
theorem all_step {P : Dt → Prop} {i : Nat} {k : Ky} (hm : ∀ y ∈ marksD i k, P y) {s : Sid} (h : AllR P s) : AllR P ⟨(kstep k (marksD i k) s.l s.r s.c).1, (kstep k (marksD i k) s.l s.r s.c).2.1, (kstep k (marksD i k) s.l s.r s.c).2.2⟩ := by
  cases k with
  | write w => exact ⟨all_app h.l hm, h.r, h.c⟩
  | paste => exact ⟨all_app h.l h.c, h.r, h.c⟩
  | left n => exact ⟨(all_near h.l).2, all_app h.r (all_near h.l).1, h.c⟩
  | right n => exact ⟨all_app h.l (all_near h.r).1, (all_near h.r).2, h.c⟩
  | rub n => exact ⟨(all_near h.l).2, h.r, h.c⟩
  | strike n => exact ⟨h.l, (all_near h.r).2, h.c⟩
  | copy n => exact ⟨h.l, h.r, (all_near h.r).1⟩
  | cut n => exact ⟨h.l, (all_near h.r).2, (all_near h.r).1⟩
theorem all_kst {P : Dt → Prop} (ks : List Ky) (hm : ∀ (i : Nat) k, ks[i]? = some k → ∀ y ∈ marksD i k, P y) {s : Sid} (h : AllR P s) : ∀ i, AllR P (kst ks s i)
  | 0 => h
  | i + 1 => by
    unfold kst
    split
    · rename_i k hk
      exact all_step (hm i k hk) (all_kst ks hm h i)
    · exact all_kst ks hm h i
theorem mark_typed {i : Nat} {k : Ky} {y : Dt} (hy : y ∈ marksD i k) : ∃ a, a < k.wt ∧ y = typedD i a := by
  cases k with
  | write w =>
    obtain ⟨a, ha, rfl⟩ := List.mem_map.mp hy
    exact ⟨a, List.mem_range.mp ha, rfl⟩
  | _ => cases hy
def TyB (x : Dt) : Prop := ∀ i a, x = typedD i a → i < 100 ∧ a < 100
theorem tyB_spot {sd dp : Nat} (h : sd < 3) : TyB (spotD sd dp) := fun i a e => by
  have := congrArg asSpot e
  rw [asSpot_spot h, asSpot_typed] at this
  cases this
theorem typed_inj {i a j b : Nat} (h : typedD i a = typedD j b) : i = j ∧ a = b := by
  unfold typedD at h
  injection h with h
  injection h with _ h
  injection h with h1 h
  injection h with h2 _
  injection h1 with h1
  injection h2 with h2
  omega
theorem srcAt_tyb {ks : List Ky} (gk : GoodH ks) {sd dp : Nat} (h : sd < 3) : TyB (srcAt (farS ks) (farN ks) sd dp) := by
  have h0 : AllR TyB (sid0 (nr true ks) (nr false ks) (heldK ks)) := by
    have row : ∀ sd n, sd < 3 → ∀ y ∈ rowD (sideS sd) n, TyB y := fun sd n h3 y hy => by
      obtain ⟨d, _, rfl⟩ := List.mem_map.mp hy
      exact tyB_spot (sd := sd) (dp := d) h3
    exact ⟨fun y hy => row 0 _ (by decide) y (List.mem_reverse.mp hy), fun y hy => row 1 _ (by decide) y (List.mem_reverse.mp hy), fun y hy => row 2 _ (by decide) y hy⟩
  have h1 := all_kst ks (fun i k hk y hy j b e => by
    obtain ⟨a, ha, rfl⟩ := mark_typed hy
    obtain ⟨e1, e2⟩ := typed_inj e
    have h1 := (List.getElem?_eq_some_iff.mp hk).1
    have h2 := gk.few
    have h3 := Nat.le_trans (hwt_mem (List.mem_of_getElem? hk)) gk.2
    omega) h0 ks.length
  unfold srcAt
  cases hr : (rowS (farS ks) sd)[dp]? with
  | none => exact tyB_spot h
  | some x =>
    have hx := List.mem_of_getElem? hr
    match sd, h with
    | 0, _ => exact h1.l x (List.mem_reverse.mp hx)
    | 1, _ => exact h1.r x (List.mem_reverse.mp hx)
    | 2, _ => exact h1.c x hx
theorem tab_near (ks : List Ky) {sd : Nat} (h : sd < 3) : ∀ x ∈ rowS (farS ks) sd, isNr (farN ks) x = true ∨ ∃ i a, x = typedD i a := by
  have row : ∀ sd n, sd < 3 → n = nS (farN ks) sd → ∀ y ∈ rowD (sideS sd) n, isNr (farN ks) y = true ∨ ∃ i a, y = typedD i a := fun sd n h3 e y hy => by
    obtain ⟨d, hd, rfl⟩ := List.mem_map.mp hy
    refine .inl ?_
    show isNr (farN ks) (spotD sd d) = true
    rw [near_spot h3, ← e]
    exact decide_eq_true (List.mem_range.mp hd)
  have h0 : AllR (fun x => isNr (farN ks) x = true ∨ ∃ i a, x = typedD i a) (sid0 (nr true ks) (nr false ks) (heldK ks)) := ⟨fun y hy => row 0 _ (by decide) rfl y (List.mem_reverse.mp hy), fun y hy => row 1 _ (by decide) rfl y (List.mem_reverse.mp hy), fun y hy => row 2 _ (by decide) rfl y hy⟩
  have h1 := all_kst ks (fun i k hk y hy => by obtain ⟨a, _, rfl⟩ := mark_typed hy; exact .inr ⟨i, a, rfl⟩) h0 ks.length
  intro x hx
  match sd, h with
  | 0, _ => exact h1.l x (List.mem_reverse.mp hx)
  | 1, _ => exact h1.r x (List.mem_reverse.mp hx)
  | 2, _ => exact h1.c x hx
/-- where letters are left on the left, what comes from afar comes from the right -/
theorem far_right {ks : List Ky} (gk : GoodH ks) (hl : (farN ks).1 ≤ (farS ks).l.length) {p : Nat × Nat} (hp : p.1 < 3) (hd : p.2 < nS (farN ks) p.1 ∨ (p.1 = 0 ∧ p.2 < (farS ks).l.length)) {sd dp : Nat} (h3 : sd < 3) (e : srcAt (farS ks) (farN ks) p.1 p.2 = spotD sd dp) (hn : isNr (farN ks) (spotD sd dp) = false) : sd = 1 := by
  obtain ⟨a, b⟩ := p
  dsimp only at *
  unfold srcAt at e
  cases hr : (rowS (farS ks) a)[b]? with
  | some x =>
    rw [hr] at e
    have e : x = spotD sd dp := e
    rcases tab_near ks hp x (List.mem_of_getElem? hr) with h | ⟨i, a', h⟩
    · rw [e, hn] at h
      cases h
    · have := congrArg asSpot (e.symm.trans h)
      rw [asSpot_spot h3, asSpot_typed] at this
      cases this
  | none =>
    rw [hr] at e
    have e : spotD a (b - (rowS (farS ks) a).length + nS (farN ks) a) = spotD sd dp := e
    have e1 := congrArg asSpot e
    rw [asSpot_spot h3, asSpot_spot hp] at e1
    have e2 : a = sd := congrArg Prod.fst (Option.some.inj e1)
    have hr := List.getElem?_eq_none_iff.mp hr
    match a, hp with
    | 0, _ =>
      have hr : (farS ks).l.length ≤ b := hr
      have hd : b < (farN ks).1 ∨ (0 = 0 ∧ b < (farS ks).l.length) := hd
      omega
    | 1, _ => exact e2.symm
    | 2, _ =>
      have hr : (farS ks).c.length ≤ b := hr
      have hc : (farS ks).c.length = heldK ks := tab_clip (near_fits gk (Nat.le_refl _) (Nat.le_refl _)).2
      have hd : b < heldK ks ∨ (2 = 0 ∧ b < (farS ks).l.length) := hd
      omega
theorem per_of {α : Type} [DecidableEq α] {f : α → Option α} {q : α} : ∀ k : Nat, 0 < k → itn f k q = some q → ∃ m, Per f q m := by
  intro k
  induction k using Nat.strongRecOn with
  | _ k ih =>
    intro h0 h
    by_cases hj : ∃ j, 0 < j ∧ j < k ∧ itn f j q = some q
    · obtain ⟨j, h1, h2, h3⟩ := hj
      exact ih j h2 h1 h3
    · exact ⟨k, h0, h, fun j h1 h2 h3 => hj ⟨j, h1, h2, h3⟩⟩
theorem cyc_end {s : Sid} {n : N3} (hs : SrcRows s) {p q : Nat × Nat} (hp : nearP n p) (h : itn (nxt s n) (sumN n) p = some q) : ∃ m, Per (nxt s n) q m := by
  by_cases hd : ∃ i j r, i < j ∧ j < sumN n + 1 ∧ itn (nxt s n) i p = some r ∧ itn (nxt s n) j p = some r
  · obtain ⟨i, j, r, h1, h2, h3, h4⟩ := hd
    have e1 : itn (nxt s n) (sumN n - i) r = some q := by rw [← itn_at h3, show i + (sumN n - i) = sumN n by omega]; exact h
    have e2 : itn (nxt s n) (j - i) r = some r := by rw [← itn_at h3, show i + (j - i) = j by omega]; exact h4
    have e3 : itn (nxt s n) (j - i) q = some q := by
      rw [← itn_at e1, show sumN n - i + (j - i) = (j - i) + (sumN n - i) by omega, itn_at e2]
      exact e1
    exact per_of (j - i) (by omega) e3
  · exfalso
    have nd := orb_nodup (f := nxt s n) (p := p) (m := sumN n + 1) fun i j r h1 h2 h3 h4 => hd ⟨i, j, r, h1, h2, h3, h4⟩
    have hl := nodup_le nd (orb_in hs hp)
    rw [orb_len (fun i hi => itn_le h (by omega)), spots3_len] at hl
    omega
/-! ### the program's way -/
def offD (x : Dt) : Dt := match asSpot x with
  | some _ => firstR
  | none => x
theorem nxt_cases (s : Sid) (n : N3) (q : Nat × Nat) : (∃ r, asSpot (srcAt s n q.1 q.2) = some r ∧ r.2 < nS n r.1 ∧ nxt s n q = some r) ∨ (nxt s n q = none ∧ ∀ f, prF s n (f + 1) q = offD (srcAt s n q.1 q.2)) := by
  cases h : asSpot (srcAt s n q.1 q.2) with
  | none => exact .inr ⟨by unfold nxt; rw [h], fun f => by unfold prF offD; rw [h]⟩
  | some r =>
    by_cases hr : r.2 < nS n r.1
    · exact .inl ⟨r, rfl, hr, by unfold nxt; rw [h]; dsimp only; rw [if_pos hr]⟩
    · exact .inr ⟨by unfold nxt; rw [h]; dsimp only; rw [if_neg hr], fun f => by unfold prF offD; rw [h]; dsimp only; rw [if_neg (by simpa using hr)]⟩
theorem prF_next {s : Sid} {n : N3} {q r : Nat × Nat} (h : nxt s n q = some r) (f : Nat) : prF s n (f + 1) q = prF s n f r := by
  rcases nxt_cases s n q with ⟨r', h1, h2, h3⟩ | ⟨h1, _⟩
  · rw [h3] at h
    cases h
    conv => lhs; unfold prF
    rw [h1]
    dsimp only
    rw [if_pos (decide_eq_true h2)]
  · rw [h1] at h
    cases h
theorem itn_head {α : Type} [DecidableEq α] {f : α → Option α} {q : α} (j : Nat) : itn f (j + 1) q = (f q).bind (itn f j) := by
  rw [Nat.add_comm, itn_add]
  rfl
theorem prF_ring {s : Sid} {n : N3} : ∀ (f : Nat) (q r : Nat × Nat), itn (nxt s n) f q = some r → prF s n f q = ringT (ringO s n r)
  | 0, q, r, h => by cases h; rfl
  | f + 1, q, r, h => by
    rw [itn_head] at h
    cases e : nxt s n q with
    | none => rw [e] at h; cases h
    | some q' =>
      rw [e] at h
      rw [prF_next e]
      exact prF_ring f q' r h
theorem prF_off {s : Sid} {n : N3} : ∀ (j f : Nat) (q r : Nat × Nat), itn (nxt s n) j q = some r → nxt s n r = none → j < f → prF s n f q = offD (srcAt s n r.1 r.2)
  | 0, f, q, r, h, h2, hf => by
    cases h
    obtain ⟨f', rfl⟩ : ∃ f', f = f' + 1 := ⟨f - 1, by omega⟩
    rcases nxt_cases s n q with ⟨_, _, _, h3⟩ | ⟨_, h3⟩
    · rw [h3] at h2; cases h2
    · exact h3 f'
  | j + 1, f, q, r, h, h2, hf => by
    obtain ⟨f', rfl⟩ : ∃ f', f = f' + 1 := ⟨f - 1, by omega⟩
    rw [itn_head] at h
    cases e : nxt s n q with
    | none => rw [e] at h; cases h
    | some q' =>
      rw [e] at h
      rw [prF_next e]
      exact prF_off j f' q' r h h2 (by omega)
def PrOk (N : Nat) (t : Dt) : Prop := (∃ i a, i < 100 ∧ a < 100 ∧ t = typedD i a) ∨ t = firstR ∨ ∃ m, 0 < m ∧ m ≤ N ∧ t = ringT (some m)
theorem offD_ok {x : Dt} (h : IsSrc x) (hb : TyB x) (N : Nat) : PrOk N (offD x) := by
  rcases h with ⟨sd, dp, h3, rfl⟩ | ⟨i, a, rfl⟩
  · refine .inr (.inl ?_)
    unfold offD
    rw [asSpot_spot h3]
  · obtain ⟨h1, h2⟩ := hb i a rfl
    refine .inl ⟨i, a, h1, h2, ?_⟩
    unfold offD
    rw [asSpot_typed]
/-- a row that ends goes off somewhere -/
theorem off_at {α : Type} [DecidableEq α] {f : α → Option α} : ∀ (m : Nat) (q : α), itn f m q = none → ∃ j r, j < m ∧ itn f j q = some r ∧ f r = none
  | 0, q, h => by cases h
  | m + 1, q, h => by
    rw [itn_head] at h
    cases e : f q with
    | none => exact ⟨0, q, by omega, rfl, e⟩
    | some q' =>
      rw [e] at h
      obtain ⟨j, r, h1, h2, h3⟩ := off_at m q' h
      exact ⟨j + 1, r, by omega, by rw [itn_head, e]; exact h2, h3⟩
theorem itn_lt3 {s : Sid} {n : N3} (hs : SrcRows s) {p : Nat × Nat} (hp : p.1 < 3) : ∀ (i : Nat) (q : Nat × Nat), itn (nxt s n) i p = some q → q.1 < 3
  | 0, q, h => by cases h; exact hp
  | i + 1, q, h => by
    cases e : itn (nxt s n) i p with
    | none => unfold itn at h; rw [e] at h; cases h
    | some r =>
      unfold itn at h
      rw [e] at h
      exact (nxt_near hs (itn_lt3 hs hp i r e) h).1
theorem print_ok {s : Sid} {n : N3} (hs : SrcRows s) (hb : ∀ sd dp, sd < 3 → TyB (srcAt s n sd dp)) {p : Nat × Nat} (hp : p.1 < 3) : PrOk (sumN n) (printD s n p) := by
  unfold printD
  cases h : itn (nxt s n) (sumN n + 1) p with
  | none =>
    obtain ⟨j, r, h1, h2, h3⟩ := off_at _ _ h
    rw [prF_off j _ p r h2 h3 h1]
    exact offD_ok (srcAt_src hs (itn_lt3 hs hp j r h2)) (hb _ _ (itn_lt3 hs hp j r h2)) _
  | some q =>
    rw [prF_ring _ _ _ h]
    rw [itn_head] at h
    cases e : nxt s n p with
    | none => rw [e] at h; cases h
    | some p0 =>
      rw [e] at h
      obtain ⟨a1, a2, _⟩ := nxt_near hs hp e
      have hn : nearP n p0 := ⟨a1, a2⟩
      obtain ⟨m, hm⟩ := cyc_end hs hn h
      have hq := itn_near hs hn _ _ h
      rw [(ringO_per hs hq m).mpr hm]
      exact .inr (.inr ⟨m, hm.1, per_le hs hq hm, rfl⟩)

/-! ## behind how many pressings prints come again -/
def ringM (t : Dt) : Option Nat := match t with
  | .tup [.str _, .int m] => some m.toNat
  | _ => none
def lcmL (ts : List Dt) : Nat := ts.foldl (fun m t => match ringM t with | some r => Nat.lcm m r | none => m) 1
open Classical in
noncomputable def roundT (ts : List Dt) : Dt := if ts = [] ∨ firstR ∈ ts then .non else .int (lcmL ts : Nat)
theorem ringM_typed {i a : Nat} : ringM (typedD i a) = none := rfl
theorem ringM_ring {m : Nat} : ringM (ringT (some m)) = some m := by
  show some ((m : Int).toNat) = _
  rw [Int.toNat_natCast]
theorem prok_pln {N : Nat} {t : Dt} (h : PrOk N t) : Pln t = true ∧ deep t ≤ 1 := by
  have s1 : Pln (.str (cd "first")) = true := by decide +kernel
  have s2 : Pln (.str (cd "right")) = true := by decide +kernel
  have s3 : Pln (.str (cd "ring")) = true := by decide +kernel
  rcases h with ⟨i, a, _, _, rfl⟩ | rfl | ⟨m, _, _, rfl⟩
  · refine ⟨typed_pln.1, ?_⟩
    unfold typedD deep deepAll deepAll deepAll deepAll deep
    decide
  · refine ⟨by unfold firstR Pln Plns Plns Plns; rw [s1, s2]; rfl, ?_⟩
    unfold firstR deep deepAll deepAll deepAll deep
    decide
  · refine ⟨by unfold ringT optN Pln Plns Plns Plns; rw [s3]; unfold Pln; rfl, ?_⟩
    unfold ringT optN deep deepAll deepAll deepAll deep
    decide
theorem proks_pln {N : Nat} {ts : List Dt} (h : ∀ t ∈ ts, PrOk N t) : Plns ts = true ∧ deep (.lst ts) ≤ 64 := by
  refine ⟨plns_of fun t ht => (prok_pln (h t ht)).1, ?_⟩
  have := deepAll_le (n := 1) (ds := ts) fun t ht => (prok_pln (h t ht)).2
  unfold deep
  omega
theorem lcm_step {ts : List Dt} {i : Nat} {t : Dt} (h : ts[i]? = some t) : lcmL (ts.take (i + 1)) = match ringM t with | some r => Nat.lcm (lcmL (ts.take i)) r | none => lcmL (ts.take i) := by
  unfold lcmL
  rw [List.take_add_one, h, Option.toList_some, List.foldl_append]
  rfl
def facN : Nat → Nat
  | 0 => 1
  | n + 1 => facN n * (n + 1)
theorem fac_dvd {m : Nat} (h0 : 0 < m) : ∀ {n : Nat}, m ≤ n → m ∣ facN n
  | 0, h => by omega
  | n + 1, h => by
    by_cases e : m = n + 1
    · rw [e]
      exact Nat.dvd_mul_left _ _
    · exact Nat.dvd_trans (fac_dvd h0 (by omega)) (Nat.dvd_mul_right _ _)
theorem fac_pos : ∀ n, 0 < facN n
  | 0 => Nat.one_pos
  | n + 1 => Nat.mul_pos (fac_pos n) (Nat.succ_pos n)
theorem ringM_ok {N : Nat} {t : Dt} (h : PrOk N t) {r : Nat} (e : ringM t = some r) : 0 < r ∧ r ≤ N ∧ t = ringT (some r) := by
  rcases h with ⟨i, a, _, _, rfl⟩ | rfl | ⟨m, h1, h2, rfl⟩
  · rw [ringM_typed] at e; cases e
  · cases e
  · rw [ringM_ring] at e
    cases e
    exact ⟨h1, h2, rfl⟩
theorem lcm_fac {N : Nat} {ts : List Dt} (h : ∀ t ∈ ts, PrOk N t) : ∀ i, i ≤ ts.length → lcmL (ts.take i) ∣ facN N
  | 0, _ => by rw [List.take_zero]; exact Nat.one_dvd _
  | i + 1, hi => by
    have ht : ts[i]? = some ts[i] := List.getElem?_eq_getElem (by omega)
    rw [lcm_step ht]
    have ih := lcm_fac h i (by omega)
    cases e : ringM ts[i] with
    | none => exact ih
    | some r =>
      obtain ⟨h1, h2, _⟩ := ringM_ok (h _ (List.getElem_mem _)) e
      exact Nat.lcm_dvd ih (fac_dvd h1 h2)
theorem log2_mono {a b : Nat} (h : a ≤ b) (hb : 0 < b) : a.log2 ≤ b.log2 := by
  by_cases h0 : a = 0
  · rw [h0]
    exact Nat.zero_le _
  · have := Nat.log2_self_le h0
    exact (Nat.le_log2 (by omega)).mpr (Nat.le_trans this h)
theorem fac_log : (facN 180).log2 < 13000 := by decide +kernel
theorem lcm_log {ts : List Dt} (h : ∀ t ∈ ts, PrOk 180 t) {i : Nat} (hi : i ≤ ts.length) : 0 < lcmL (ts.take i) ∧ (lcmL (ts.take i)).log2 < 13000 := by
  have d := lcm_fac h i hi
  have p := fac_pos 180
  have l := Nat.le_of_dvd p d
  refine ⟨Nat.pos_of_dvd_of_pos d p, Nat.lt_of_le_of_lt (log2_mono l p) fac_log⟩
theorem PrOk.mono {N M : Nat} {t : Dt} (h : PrOk N t) (hl : N ≤ M) : PrOk M t := by
  rcases h with h | h | ⟨m, h1, h2, h3⟩
  · exact .inl h
  · exact .inr (.inl h)
  · exact .inr (.inr ⟨m, h1, Nat.le_trans h2 hl, h3⟩)
theorem printsK_ok {ks : List Ky} (gk : GoodH ks) : (∀ t ∈ printsK ks, PrOk 180 t) ∧ (printsK ks).length ≤ 4000 := by
  have hl := tab_len gk
  have n1 := nr_le true gk
  have n2 := nr_le false gk
  have n3 := held_le gk
  have hs : SrcRows (farS ks) := tab_srcs ks _ _ _
  refine ⟨fun t ht => ?_, ?_⟩
  · obtain ⟨k, _, rfl⟩ := List.mem_map.mp ht
    exact (print_ok hs (fun _ _ h => srcAt_tyb gk h) (p := (0, (farS ks).l.length - 1 - k)) (show 0 < 3 by decide)).mono (by show nr true ks + nr false ks + heldK ks ≤ 180; omega)
  · unfold printsK prL
    rw [List.length_map, List.length_range]
    omega
def spRound : SpD := fun ws C Q _ => ∃ (w : W) (d : Dt) (ks : List Ky), ws = [w] ∧ HandW C w d ∧ isHandOf d ks ∧ Q (.d (roundT (printsK ks))) C
theorem ok_round_of_prints (T : Txt K mg w) : FnOk P w K mg base CX0 8 T.f_round_of_prints.f T.f_round_of_prints.fd ["hand"] (lft K spRound) := by
  refine okD T.f_round_of_prints.F sc_round_of_prints (fun ws C Q X h => ?_) (fun cv A out s H E hr => ⟨_, (pss_cons (ps_set (i := 1) sc_round_of_prints.nd rfl (.inl rfl) (pe_call (ok_prints T) (hr.mono (by first | decide | omega)) (by rfl) T.f_prints.g T.f_prints.F.kp T.f_prints.b .nil pass0 (pa_cons (pv 0) pa_nil)))
      (pss_cons (ps_if (PW.pt (pw_or (pt_not (pt_truthK K (pv 1) (by intro _; rfl))) (pw_or1 (pt_cmpR (q_inD K (hu65 hr)) (pe_tup (pa_cons pe_strL (pa_cons pe_strL pa_nil))) (pv 1) (by rfl))))) (pss_one (ps_ret pe_non)) pss_nil)
      (pss_cons (ps_set (i := 2) sc_round_of_prints.nd rfl (.inl rfl) pe_int)
      (pss_cons (ps_for PassesOwn.never rfl (pi_row K (pv 1)) (pg_name (i := 3) sc_round_of_prints.nd rfl (.inl rfl))
        (pss_one (ps_if (pt_cmpR (q_eqA K hr.units) (pe_ix (ix_seqK K) (pv 3) pe_int (fun _ _ => rfl)) pe_strL (nomark _)) (pss_one (ps_set (i := 2) sc_round_of_prints.nd rfl (.inl rfl) (pe_callBfun (q_lcm K) (by rfl) T.b_lcm (pa_cons (pv 2) (pa_cons (pe_ix (ix_seqK K) (pv 3) pe_int (fun _ _ => rfl)) pa_nil))))) pss_nil)))
      (pss_one (ps_ret (pv 2))))))), _, inferInstance, fun ws C Q X h => ?_⟩)
  · obtain ⟨w, d, ks, rfl, _⟩ := h
    rfl
  obtain ⟨w, d, ks, rfl, hw, hd, q⟩ := h
  have gk := hd.2
  obtain ⟨po, pl⟩ := printsK_ok gk
  walk_at "dw"
  refine ⟨w, d, ks, rfl, hw, hd, ?_⟩
  walk_at "dw"
  rw [last_at]
  dsimp only
  rw [List.isEmpty_map]
  generalize printsK ks = ts at q po pl
  cases ts with
  | nil =>
    unfold roundT at q
    rw [if_pos (.inl rfl)] at q
    exact iteT (ret.thing q)
  | cons t0 tr =>
  refine iteF ?_
  generalize hts : t0 :: tr = ts at q po pl
  have hne : ts ≠ [] := by rw [← hts]; exact List.cons_ne_nil _ _
  clear hts
  have pp := proks_pln po
  refine ⟨firstR, ts, rds_d, rds_own last_at, ⟨(prok_pln (N := 0) (.inr (.inl rfl))).1, Nat.le_trans (prok_pln (N := 0) (.inr (.inl rfl))).2 (by decide), pp.1, pp.2⟩, fun c hc => ?_⟩
  dsimp only
  refine iteB (fun ec => ?_) (fun ec => ?_)
  · unfold roundT at q
    rw [if_pos (.inr (hc.mp ec))] at q
    exact ret.thing q
  have hno : firstR ∉ ts := fun h => by rw [hc.mpr h] at ec; cases ec
  unfold roundT at q
  rw [if_neg (by rintro (h | h); exact hne h; exact hno h)] at q
  rw [last_at]
  walk_at "dw"
  refine DFor.own (ws := ts.map W.d) (fun i ρ C' => C' = C ++ [Cell.lst (ts.map W.d)] ∧ ∃ y, ρ = [some w, some (.o C.length), some (.d (.int (lcmL (ts.take i) : Nat))), y]) ⟨rfl, _, rfl⟩ (fun i ρ C' p => by rw [p.1]; exact last_at) ?_ ?_
  · rintro ρ C' ⟨rfl, y, rfl⟩
    rw [List.length_map, List.take_length]
    walk_at "dw"
    exact ret.thing q
  · rintro i x ρ C' hx ⟨rfl, y, rfl⟩
    rw [List.getElem?_map] at hx
    obtain ⟨t, ht, rfl⟩ := Option.map_eq_some_iff.mp hx
    have hi := (List.getElem?_eq_some_iff.mp ht).1
    have pt := po t (List.mem_of_getElem? ht)
    obtain ⟨b1, b2⟩ := lcm_log po (i := i) (by omega)
    obtain ⟨b3, b4⟩ := lcm_log po (i := i + 1) (by omega)
    rw [lcm_step ht] at b3 b4 ⊢
    generalize lcmL (ts.take i) = m at b1 b2 b3 b4
    walk_at "dw"
    rcases pt with ⟨i', a', _, _, rfl⟩ | rfl | ⟨r, r1, r2, rfl⟩
    · rw [ixW_row (d := typedD i' a') (x := .str (cd "typed")) rfl rfl]
      dsimp only
      walk_at "dw"
      rw [if_neg (by decide +kernel)]
      exact ⟨_, rfl⟩
    · rw [ixW_row (d := firstR) (x := .str (cd "first")) rfl rfl]
      dsimp only
      walk_at "dw"
      rw [if_neg (by decide +kernel)]
      exact ⟨_, rfl⟩
    · rw [ringM_ring] at b3 b4 ⊢
      rw [ixW_row (d := ringT (some r)) (x := .str (cd "ring")) rfl rfl, ixW_row (d := ringT (some r)) (x := .int (r : Nat)) rfl rfl]
      dsimp only
      walk_at "dw"
      refine ⟨?_, ?_, ?_, _, rfl⟩
      · rw [Int.natAbs_natCast]; exact b2
      · rw [Int.natAbs_natCast]
        exact Nat.lt_of_le_of_lt (log2_mono r2 (by decide)) (by decide +kernel)
      · rw [Int.natAbs_natCast, Int.natAbs_natCast]
        exact Nat.lt_trans b4 (by decide)

/-! ## a row from any source -/
def RowX (s : Sid) (n : N3) (x0 : Dt) (qs : List (Nat × Nat)) (x : Dt) : Prop := (isNr n x0 = false ∧ qs = [] ∧ x = x0) ∨ ∃ p : Nat × Nat, x0 = spotD p.1 p.2 ∧ nearP n p ∧ ∃ j, At37 s n p j x ∧ qs = orb (nxt s n) p j ∧ ((x ∈ qs.map fun q => spotD q.1 q.2) ∨ isNr n x = false)
def spRow38 : SpD := fun ws C Q _ => ∃ (ks : List Ky) (x0 : Dt), ws = [.d (farT ks), .d x0] ∧ GoodH ks ∧ IsSrc x0 ∧
  ∀ (t i : Nat) (C' : Cs) (qs : List (Nat × Nat)) (x : Dt), (∀ (j : Nat) c, C[j]? = some c → C'[j]? = some c) → C'[t]? = some (.tup [.o i, .d x]) → C'[i]? = some (.lst (qs.map fun q => W.d (spotD q.1 q.2))) → IsSrc x → qs.length ≤ 1000 → (∀ q ∈ qs, nearP (farN ks) q) → RowX (farS ks) (farN ks) x0 qs x → Q (.o t) C'
theorem ok__law_row (T : Txt K mg w) : FnOk P w K mg base CX0 1 T.f__law_row.f T.f__law_row.fd ["far", "spot"] (lft K spRow38) := by
  refine okD T.f__law_row.F sc__law_row (fun ws C Q X h => ?_) (fun cv A out s H E hr => ⟨_, (pss_cons (ps_asg (pv 0) (pg_seqK (n := 2) K rfl (pgs_cons (pg_name (i := 2) sc__law_row.nd rfl (.inl rfl)) (pgs_cons (pg_name (i := 3) sc__law_row.nd rfl (.inl rfl)) pgs_nil))))
      (pss_cons (ps_set (i := 4) sc__law_row.nd rfl (.inl rfl) (pe_lst pa_nil))
      (pss_cons (ps_set (i := 5) sc__law_row.nd rfl (.inl rfl) (pe_lst (pa_cons pe_strL (pa_cons pe_strL (pa_cons pe_strL pa_nil)))))
      (pss_cons (ps_while PassesOwn.never (PW.pt (pw_and (pt_cmpR (q_notInD K (hu65 hr)) (pv 1) (pv 4) (by rfl)) (pw_and (pt_cmpR (q_neA K hr.units) (pe_ix (ix_seqK K) (pv 1) pe_int (fun _ _ => rfl)) pe_strL (nomark _)) (pw_and1 (pt_cmpR op_lt (pe_ix (ix_seqK K) (pv 1) pe_int (fun _ _ => rfl)) (pe_ix (ix_seqK K) (pv 2) (pe_bmK K PySem.F.plainAttrs_list PySem.F.slot_list_index PySem.F.type_list_index (q_indexL K) (pv 5) (pa_cons (pe_ix (ix_seqK K) (pv 1) pe_int (fun _ _ => rfl)) pa_nil)) (fun _ _ => rfl)) (nomark _)))))) (pss_cons (ps_expr (pe_bmK K PySem.F.plainAttrs_list PySem.F.slot_list_append PySem.F.type_list_append mt_append (pv 4) (pa_cons (pv 1) pa_nil)))
      (pss_one (ps_set (i := 1) sc__law_row.nd rfl (.inl rfl) (pe_ix (ix_seqK K) (pe_ix (ix_seqK K) (pv 3) (pe_bmK K PySem.F.plainAttrs_list PySem.F.slot_list_index PySem.F.type_list_index (q_indexL K) (pv 5) (pa_cons (pe_ix (ix_seqK K) (pv 1) pe_int (fun _ _ => rfl)) pa_nil)) (fun _ _ => rfl)) (pe_ix (ix_seqK K) (pv 1) pe_int (fun _ _ => rfl)) (fun _ _ => rfl))))))
      (pss_one (ps_ret (pe_tup (pa_cons (pv 4) (pa_cons (pv 1) pa_nil))))))))), _, inferInstance, fun ws C Q X h => ?_⟩)
  · obtain ⟨ks, x0, rfl, _⟩ := h
    rfl
  obtain ⟨ks, x0, rfl, gk, hx0, q⟩ := h
  have hs : SrcRows (farS ks) := tab_srcs ks _ _ _
  have n1 := nr_le true gk
  have n2 := nr_le false gk
  have n3 := held_le gk
  have setl : ∀ (C : Cs) (x y : Cell), (C ++ [x]).set C.length y = C ++ [y] := fun C x y => by rw [List.set_append_right _ _ (Nat.le_refl _), Nat.sub_self]; rfl
  walk_at "dw"
  rw [show rowW C (W.d (farT ks)) = some [.d (nT (farN ks)), .d (tabT ks (nr true ks + 130) (nr false ks + 130) (heldK ks))] from rfl]
  dsimp only
  refine ⟨rfl, rfl, newL_o ?_⟩
  refine newL_f (ds := [.str (cd "left"), .str (cd "right"), .str (cd "clip")]) rfl ?_
  cases hnr : isNr (farN ks) x0 with
  | false =>
    refine ⟨fun m ρ C' => ρ = [some (.d (farT ks)), some (.d x0), some (.d (nT (farN ks))), some (.d (tabT ks (nr true ks + 130) (nr false ks + 130) (heldK ks))), some (.o C.length), some (.d (.lst [.str (cd "left"), .str (cd "right"), .str (cd "clip")]))] ∧ C' = C ++ [.lst []], ⟨0, rfl, rfl⟩, ?_⟩
    rintro m ρ C' ⟨rfl, rfl⟩
    have done : ret C Q (.o (C ++ [Cell.lst []]).length) ((C ++ [Cell.lst []]) ++ [.tup [.o C.length, .d x0]]) :=
      ret.same (q _ C.length _ [] x0 (fun j c h => app_at (app_at h)) last_at (app_at last_at) hx0 (Nat.zero_le _) (fun _ h => by cases h) (.inl ⟨hnr, rfl, rfl⟩))
    walk_at "dw"
    refine ⟨x0, [], rds_d, rds_own last_at, ⟨(src_pln hx0).1, (src_pln hx0).2, by unfold Plns; rfl, by unfold deep deepAll; decide⟩, fun c hc => ?_⟩
    have hct : c = true := hc.mpr (fun h => by cases h)
    subst hct
    dsimp only
    refine iteT ?_
    rcases hx0 with ⟨sd, dp, h3, rfl⟩ | ⟨i', a', rfl⟩
    · have i0 : ∀ C, ixW C (.d (spotD sd dp)) (.d (.int 0)) = some (.d (.str (sideS sd))) := fun C => ixW_row (d := spotD sd dp) rfl rfl
      have i1 : ∀ C, ixW C (.d (spotD sd dp)) (.d (.int 1)) = some (.d (.int (dp : Nat))) := fun C => ixW_row (d := spotD sd dp) rfl rfl
      simp only [i0, i1]
      walk_at "dw"
      rw [decide_eq_false (side_typed h3)]
      refine iteT ?_
      show ∃ (j : Nat) (z : V), [V.str (tx (cd "left")), V.str (tx (cd "right")), V.str (tx (cd "clip"))][j]? = some z ∧ eqV z (V.str (tx (sideS sd))) = true ∧ (∀ (m : Nat) (z' : V), m < j → [V.str (tx (cd "left")), V.str (tx (cd "right")), V.str (tx (cd "clip"))][m]? = some z' → eqV z' (V.str (tx (sideS sd))) = false) ∧ _
      refine idx_side h3 ?_
      rw [ixW_n h3]
      dsimp only
      rw [near_spot h3] at hnr
      have := of_decide_eq_false hnr
      rw [if_neg (by intro h; have := of_decide_eq_true h; omega)]
      exact done
    · have i0 : ∀ C, ixW C (.d (typedD i' a')) (.d (.int 0)) = some (.d (.str (cd "typed"))) := fun C => ixW_row (d := typedD i' a') rfl rfl
      rw [i0]
      walk_at "dw"
      exact done
  | true =>
  obtain ⟨p, rfl, hp⟩ : ∃ p : Nat × Nat, x0 = spotD p.1 p.2 ∧ nearP (farN ks) p := by
    rcases hx0 with ⟨sd, dp, h3, rfl⟩ | ⟨i', a', rfl⟩
    · rw [near_spot h3] at hnr
      exact ⟨(sd, dp), rfl, h3, of_decide_eq_true hnr⟩
    · rw [near_typed] at hnr
      cases hnr
  refine ⟨fun m ρ C' => ∃ (j : Nat) (x : Dt), m = sumN (farN ks) - j ∧ ρ = [some (.d (farT ks)), some (.d x), some (.d (nT (farN ks))), some (.d (tabT ks (nr true ks + 130) (nr false ks + 130) (heldK ks))), some (.o C.length), some (.d (.lst [.str (cd "left"), .str (cd "right"), .str (cd "clip")]))] ∧
    C' = C ++ [.lst ((orb (nxt (farS ks) (farN ks)) p j).map fun q => W.d (spotD q.1 q.2))] ∧ At37 (farS ks) (farN ks) p j x, ⟨_, 0, _, rfl, rfl, rfl, at37_0 hp⟩, ?_⟩
  rintro m ρ C' ⟨j, x, rfl, rfl, rfl, hj⟩
  obtain ⟨l1, l2⟩ := hj.len hs hp
  have hsum : sumN (farN ks) ≤ 180 := by
    show nr true ks + nr false ks + heldK ks ≤ 180
    omega
  have done : ∀ qs : List (Nat × Nat), qs = orb (nxt (farS ks) (farN ks)) p j → ((x ∈ qs.map fun q => spotD q.1 q.2) ∨ isNr (farN ks) x = false) → ret C Q (.o (C ++ [Cell.lst (qs.map fun q => W.d (spotD q.1 q.2))]).length) ((C ++ [Cell.lst (qs.map fun q => W.d (spotD q.1 q.2))]) ++ [.tup [.o C.length, .d x]]) := fun qs e hr => by
    refine ret.same (q _ C.length _ qs x (fun j c h => app_at (app_at h)) last_at (app_at last_at) hj.src (by rw [e]; omega) (by rw [e]; exact hj.near hs hp) (.inr ⟨p, rfl, hp, j, hj, e, hr⟩))
  have pln := spots_deep (orb (nxt (farS ks) (farN ks)) p j)
  walk_at "dw"
  refine ⟨x, (orb (nxt (farS ks) (farN ks)) p j).map fun q => spotD q.1 q.2, rds_d, rds_own (by rw [last_at, List.map_map]; rfl), ⟨(src_pln hj.src).1, (src_pln hj.src).2, pln.1, pln.2⟩, fun c hc => ?_⟩
  dsimp only
  refine iteB (fun ec => ?_) (fun ec => ?_)
  · have hno := hc.mp ec
    rcases hj.src with ⟨sd, dp, h3, rfl⟩ | ⟨i', a', rfl⟩
    · have i0 : ∀ C, ixW C (.d (spotD sd dp)) (.d (.int 0)) = some (.d (.str (sideS sd))) := fun C => ixW_row (d := spotD sd dp) rfl rfl
      have i1 : ∀ C, ixW C (.d (spotD sd dp)) (.d (.int 1)) = some (.d (.int (dp : Nat))) := fun C => ixW_row (d := spotD sd dp) rfl rfl
      simp only [i0, i1]
      walk_at "dw"
      rw [decide_eq_false (side_typed h3)]
      refine iteT ?_
      show ∃ (j : Nat) (z : V), [V.str (tx (cd "left")), V.str (tx (cd "right")), V.str (tx (cd "clip"))][j]? = some z ∧ eqV z (V.str (tx (sideS sd))) = true ∧ (∀ (m : Nat) (z' : V), m < j → [V.str (tx (cd "left")), V.str (tx (cd "right")), V.str (tx (cd "clip"))][m]? = some z' → eqV z' (V.str (tx (sideS sd))) = false) ∧ _
      refine idx_side h3 ?_
      rw [ixW_n h3]
      dsimp only
      by_cases hn : dp < nS (farN ks) sd
      · rw [if_pos (decide_eq_true (by omega))]
        have hnr : isNr (farN ks) (spotD sd dp) = true := by rw [near_spot h3]; exact decide_eq_true hn
        obtain ⟨st, eo⟩ := hj.step (r := (sd, dp)) hs hp h3 hnr hno
        obtain ⟨l3, l4⟩ := st.len hs hp
        refine ⟨fun ρ' C' => ∃ x, ρ' = [some (.d (farT ks)), some (.d x), some (.d (nT (farN ks))), some (.d (tabT ks (nr true ks + 130) (nr false ks + 130) (heldK ks))), some (.o C.length), some (.d (.lst [.str (cd "left"), .str (cd "right"), .str (cd "clip")]))] ∧
          C' = C ++ [.lst ((orb (nxt (farS ks) (farN ks)) p (j + 1)).map fun q => W.d (spotD q.1 q.2))] ∧ At37 (farS ks) (farN ks) p (j + 1) x, ?_, ?_⟩
        · rintro ρ' C' ⟨x, rfl, rfl, hx⟩
          exact ⟨sumN (farN ks) - (j + 1), by omega, j + 1, x, rfl, rfl, rfl, hx⟩
        · simp only [last_at, setl]
          refine ⟨rfl, by rw [List.length_map]; omega, ?_⟩
          try walk_at "dw"
          show ∃ (j : Nat) (z : V), [V.str (tx (cd "left")), V.str (tx (cd "right")), V.str (tx (cd "clip"))][j]? = some z ∧ eqV z (V.str (tx (sideS sd))) = true ∧ (∀ (m : Nat) (z' : V), m < j → [V.str (tx (cd "left")), V.str (tx (cd "right")), V.str (tx (cd "clip"))][m]? = some z' → eqV z' (V.str (tx (sideS sd))) = false) ∧ _
          refine idx_side h3 ?_
          rw [ixW_tab h3]
          dsimp only
          have fs := far_src gk h3 hn
          rw [ixW_row (d := .lst (rowS (tabD ks (nr true ks + 130) (nr false ks + 130) (heldK ks)) sd)) (x := srcAt (farS ks) (farN ks) sd dp) rfl (at_ofA rfl fs)]
          refine ⟨_, rfl, ?_, st⟩
          rw [eo, List.map_append]
          rfl
      · rw [if_neg (by intro h; have := of_decide_eq_true h; omega)]
        exact done _ rfl (.inr (by rw [near_spot h3]; exact decide_eq_false hn))
    · have i0 : ∀ C, ixW C (.d (typedD i' a')) (.d (.int 0)) = some (.d (.str (cd "typed"))) := fun C => ixW_row (d := typedD i' a') rfl rfl
      rw [i0]
      walk_at "dw"
      exact done _ rfl (.inr near_typed)
  · have hin : x ∈ (orb (nxt (farS ks) (farN ks)) p j).map fun q => spotD q.1 q.2 := by
      by_cases h : x ∈ (orb (nxt (farS ks) (farN ks)) p j).map fun q => spotD q.1 q.2
      · exact h
      · rw [hc.mpr h] at ec; cases ec
    exact done _ rfl (.inl hin)

/-! ## the law's prints -/
theorem printX {ks : List Ky} (gk : GoodH ks) {dp : Nat} (hL : (farN ks).1 ≤ dp) (hd : dp < (farS ks).l.length) {qs : List (Nat × Nat)} {x : Dt} (hx : IsSrc x) (h : RowX (farS ks) (farN ks) (srcAt (farS ks) (farN ks) 0 dp) qs x) :
    (∃ (i : Nat) (q : Nat × Nat), qs[i]? = some q ∧ x = spotD q.1 q.2 ∧ (∀ m, m < i → qs[m]? ≠ some q) ∧ printD (farS ks) (farN ks) (0, dp) = ringT (some (qs.length - i))) ∨
    ((x ∉ qs.map fun q => spotD q.1 q.2) ∧ printD (farS ks) (farN ks) (0, dp) = offD x ∧ ∀ sd dp', sd < 3 → x = spotD sd dp' → sd = 1) := by
  have hs : SrcRows (farS ks) := tab_srcs ks _ _ _
  have hl : (farN ks).1 ≤ (farS ks).l.length := by omega
  have n0 := nxt_src (n := farN ks) hs (r := (0, dp)) (show 0 < 3 by decide)
  dsimp only at n0
  have no_in : ∀ (qs : List (Nat × Nat)), (∀ q ∈ qs, nearP (farN ks) q) → isNr (farN ks) x = false → x ∉ qs.map fun q => spotD q.1 q.2 := fun qs hq hn hm => by
    obtain ⟨q, h1, rfl⟩ := List.mem_map.mp hm
    obtain ⟨a, b⟩ := hq q h1
    rw [near_spot a, decide_eq_true b] at hn
    cases hn
  rcases h with ⟨h1, rfl, rfl⟩ | ⟨p, e, hp, j, hj, rfl, hex⟩
  · refine .inr ⟨by simp, ?_, fun sd dp' h3 e => far_right gk hl (p := (0, dp)) (show 0 < 3 by decide) (.inr ⟨rfl, hd⟩) h3 e (by rw [← e]; exact h1)⟩
    unfold printD
    have hno : nxt (farS ks) (farN ks) (0, dp) = none := by
      rcases n0 with ⟨r', e1, e2, e3⟩ | ⟨_, e⟩
      · obtain ⟨a1, a2, a3⟩ := nxt_near hs (p := (0, dp)) (show 0 < 3 by decide) e3
        have : isNr (farN ks) (srcAt (farS ks) (farN ks) 0 dp) = true := by rw [e1, near_spot a1]; exact decide_eq_true a2
        rw [h1] at this
        cases this
      · exact e
    exact prF_off 0 _ (0, dp) (0, dp) rfl hno (Nat.succ_pos _)
  · have nx : nxt (farS ks) (farN ks) (0, dp) = some p := by
      rcases n0 with ⟨r', e1, e2, e3⟩ | ⟨e1, _⟩
      · have := (spot_inj hp.1 e2).mp (e1.symm.trans e)
        rw [← this]
        exact e3
      · rw [e, near_spot hp.1, decide_eq_true hp.2] at e1
        cases e1
    obtain ⟨l1, l2⟩ := hj.len hs hp
    have nr := hj.near hs hp
    rcases hex with hin | hoff
    · refine .inl ?_
      obtain ⟨q, hq, rfl⟩ := List.mem_map.mp hin
      obtain ⟨i, hi, ei⟩ := mem_orb.mp hq
      have nq := nr q hq
      have ej : itn (nxt (farS ks) (farN ks)) j p = some q := by
        rcases hj.now with ⟨r', e1, e2, e3⟩ | ⟨e1, _⟩
        · have := (spot_inj e2 nq.1).mp e1
          rw [this]
          exact e3
        · rw [near_spot nq.1, decide_eq_true nq.2] at e1; cases e1
      have at_orb : ∀ m, m < j → (orb (nxt (farS ks) (farN ks)) p j)[m]? = itn (nxt (farS ks) (farN ks)) m p := fun m hm => by
        have : ∀ J, J ≤ j → m < J → (orb (nxt (farS ks) (farN ks)) p J)[m]? = itn (nxt (farS ks) (farN ks)) m p := fun J => by
          induction J with
          | zero => intro _ h; omega
          | succ J ih =>
            intro h1 h2
            obtain ⟨y, hy⟩ := hj.has J (by omega)
            have lJ := orb_len (f := nxt (farS ks) (farN ks)) (p := p) (m := J) fun i hi => hj.has i (by omega)
            rw [orb_succ hy]
            by_cases h3 : m < J
            · rw [List.getElem?_append_left (by omega)]
              exact ih (by omega) h3
            · have : m = J := by omega
              subst this
              rw [List.getElem?_append_right (by omega), lJ, Nat.sub_self, hy]
              rfl
        exact this j (Nat.le_refl _) hm
      have pq : Per (nxt (farS ks) (farN ks)) q (j - i) := by
        refine ⟨by omega, ?_, fun k h0 hk ek => ?_⟩
        · rw [← itn_at ei, show i + (j - i) = j by omega]
          exact ej
        · have e2 : itn (nxt (farS ks) (farN ks)) (i + k) p = some q := by rw [itn_at ei]; exact ek
          exact hj.dis i (i + k) q (by omega) (by omega) ei e2
      refine ⟨i, q, by rw [at_orb i hi]; exact ei, rfl, fun m hm e => ?_, ?_⟩
      · rw [at_orb m (by omega)] at e
        exact hj.dis m i q hm hi e ei
      · rw [l1]
        unfold printD
        rw [prF_next nx]
        obtain ⟨q', hq'⟩ := pq.has (sumN (farN ks) - i)
        have e2 : itn (nxt (farS ks) (farN ks)) (sumN (farN ks)) p = some q' := by
          rw [← hq', ← itn_at ei, show i + (sumN (farN ks) - i) = sumN (farN ks) by omega]
        rw [prF_ring _ _ _ e2]
        have pq' := pq.shift hq'
        rw [(ringO_per hs (itn_near hs nq _ _ hq') (j - i)).mpr pq']
    · have none_j : itn (nxt (farS ks) (farN ks)) j p = none := by
        rcases hj.now with ⟨r', e1, e2, e3⟩ | ⟨_, e⟩
        · have n' := itn_near hs hp _ _ e3
          rw [e1, near_spot n'.1, decide_eq_true n'.2] at hoff
          cases hoff
        · exact e
      have last : ∃ r, itn (nxt (farS ks) (farN ks)) (j - 1) p = some r ∧ nxt (farS ks) (farN ks) r = none ∧ x = srcAt (farS ks) (farN ks) r.1 r.2 ∧ 0 < j := by
        have j0 : 0 < j := by
          by_cases h : 0 < j
          · exact h
          · have : j = 0 := by omega
            rw [this] at none_j
            cases none_j
        obtain ⟨r, e1, e2⟩ := hj.prev j0
        refine ⟨r, e1, ?_, e2, j0⟩
        have : itn (nxt (farS ks) (farN ks)) (j - 1 + 1) p = none := by rw [show j - 1 + 1 = j by omega]; exact none_j
        unfold itn at this
        rw [e1] at this
        exact this
      refine .inr ⟨no_in _ nr hoff, ?_, ?_⟩
      · unfold printD
        rw [prF_next nx]
        obtain ⟨r, e1, e2, e3, e4⟩ := last
        rw [e3]
        exact prF_off (j - 1) _ p r e1 e2 (by omega)
      · intro sd dp' h3 e
        obtain ⟨r, e1, e2, e3, e4⟩ := last
        have nr' := itn_near hs hp _ r e1
        exact far_right gk hl (p := r) nr'.1 (.inl nr'.2) h3 (e3.symm.trans e) (by rw [← e]; exact hoff)
def spLPrint : SpD := fun ws C Q _ => ∃ (ks : List Ky) (dp : Nat), ws = [.d (farT ks), .d (srcAt (farS ks) (farN ks) 0 dp)] ∧ GoodH ks ∧ (farN ks).1 ≤ dp ∧ dp < (farS ks).l.length ∧ Q (.d (printD (farS ks) (farN ks) (0, dp))) C

/-! ## the law's own prints, all of them -/
theorem rev_prints {ks : List Ky} : (((List.range ((farS ks).l.length - (farN ks).1)).map fun a => printD (farS ks) (farN ks) (0, (farN ks).1 + a))).reverse = printsK ks := by
  unfold printsK prL
  refine List.ext_getElem? fun i => ?_
  rw [← List.map_reverse, List.getElem?_map, List.getElem?_map]
  by_cases hi : i < (farS ks).l.length - (farN ks).1
  · rw [List.getElem?_reverse (by rw [List.length_range]; exact hi), List.length_range, List.getElem?_range (by omega), List.getElem?_range hi]
    have e : (farN ks).1 + ((farS ks).l.length - (farN ks).1 - 1 - i) = (farS ks).l.length - 1 - i := by omega
    show some (printD (farS ks) (farN ks) (0, (farN ks).1 + ((farS ks).l.length - (farN ks).1 - 1 - i))) = _
    rw [e]
    rfl
  · rw [List.getElem?_eq_none (by rw [List.length_reverse, List.length_range]; omega), List.getElem?_eq_none (by rw [List.length_range]; omega)]
    rfl
def spLDue : SpD := fun ws C Q _ => ∃ ks : List Ky, ws = [.d (dH ks)] ∧ GoodH ks ∧ Q (.d (.lst (printsK ks))) C

/-! ## the law's own round, by trying -/
theorem lcmL_sizes (ts : List Dt) : lcmL ts = (ts.filterMap ringM).foldl Nat.lcm 1 := by
  unfold lcmL
  generalize 1 = m
  induction ts generalizing m with
  | nil => rfl
  | cons t ts ih =>
    rw [List.foldl_cons, List.filterMap_cons]
    cases ringM t with
    | none => exact ih m
    | some r => rw [List.foldl_cons]; exact ih _
theorem least_lcm {m r t : Nat} (hm : 0 < m) (h0 : 0 < t) (h : r ∣ m * t) (hno : ∀ u, 0 < u → u < t → ¬ r ∣ m * u) : m * t = Nat.lcm m r := by
  refine Nat.le_antisymm ?_ (Nat.le_of_dvd (Nat.mul_pos hm h0) (Nat.lcm_dvd (Nat.dvd_mul_right m t) h))
  obtain ⟨u, hu⟩ := Nat.dvd_lcm_left m r
  have hr : r ∣ m * u := hu ▸ Nat.dvd_lcm_right m r
  by_cases u0 : u = 0
  · exfalso
    rw [u0, Nat.mul_zero] at hu
    by_cases r0 : r = 0
    · rw [r0] at h
      have := Nat.eq_zero_of_zero_dvd h
      have := Nat.mul_pos hm h0
      omega
    · have := Nat.lcm_pos hm (Nat.pos_of_ne_zero r0)
      omega
  · by_cases lt : u < t
    · exact absurd hr (hno u (Nat.pos_of_ne_zero u0) lt)
    · rw [hu]
      exact Nat.mul_le_mul (Nat.le_refl _) (by omega)
def spLRound : SpD := fun ws C Q _ => ∃ ts : List Dt, ws = [.d (.lst ts)] ∧ (∀ t ∈ ts, PrOk 180 t) ∧ ts.length ≤ 4000 ∧ Q (.d (roundT ts)) C

/-! ## how great a round of prints can be -/
theorem ringT_inj {m m' : Nat} (h : ringT (some m) = ringT (some m')) : m = m' := by
  have := congrArg ringM h
  rw [ringM_ring, ringM_ring] at this
  exact Option.some.inj this
theorem prF_per {s : Sid} {n : N3} (hs : SrcRows s) {m : Nat} : ∀ (f : Nat) (q : Nat × Nat), q.1 < 3 → (nearP n q ∨ 0 < f) → prF s n f q = ringT (some m) → ∃ q', nearP n q' ∧ Per (nxt s n) q' m
  | 0, q, h3, hq, h => by
    rcases hq with hq | h0
    · have h : ringT (ringO s n q) = ringT (some m) := h
      cases e : ringO s n q with
      | none =>
        rw [e] at h
        have := congrArg ringM h
        rw [ringM_ring] at this
        cases this
      | some m' =>
        rw [e] at h
        rw [ringT_inj h] at e
        exact ⟨q, hq, (ringO_per hs hq m).mp e⟩
    · exact absurd h0 (Nat.lt_irrefl 0)
  | f + 1, q, h3, _, h => by
    rcases nxt_cases s n q with ⟨r, h1, h2, h4⟩ | ⟨_, h4⟩
    · rw [prF_next h4] at h
      obtain ⟨a1, a2, _⟩ := nxt_near hs h3 h4
      exact prF_per hs f r a1 (.inl ⟨a1, a2⟩) h
    · rw [h4] at h
      exfalso
      have hx := srcAt_src hs (n := n) (sd := q.1) (dp := q.2) h3
      generalize srcAt s n q.1 q.2 = x at h hx
      have h := congrArg ringM h
      rw [ringM_ring] at h
      rcases hx with ⟨sd, dp, h3, rfl⟩ | ⟨i, a, rfl⟩
      · unfold offD at h
        rw [asSpot_spot h3] at h
        cases h
      · unfold offD at h
        rw [asSpot_typed] at h
        cases h
theorem prints_per {ks : List Ky} {m : Nat} (h : m ∈ (printsK ks).filterMap ringM) (ok : ∀ t ∈ printsK ks, PrOk 180 t) : ∃ q, nearP (farN ks) q ∧ Per (nxt (farS ks) (farN ks)) q m := by
  obtain ⟨t, ht, e⟩ := List.mem_filterMap.mp h
  obtain ⟨_, _, rfl⟩ := ringM_ok (ok t ht) e
  obtain ⟨k, _, ek⟩ := List.mem_map.mp ht
  exact prF_per (tab_srcs ks _ _ _) _ (0, (farS ks).l.length - 1 - k) (show 0 < 3 by decide) (.inr (Nat.succ_pos _)) ek
theorem apart_sum {s : Sid} {n : N3} (hs : SrcRows s) : ∀ ms : List Nat, ms.Nodup → (∀ m ∈ ms, ∃ q, nearP n q ∧ Per (nxt s n) q m) → ∃ R : List (Nat × Nat), R.Nodup ∧ (∀ x ∈ R, x ∈ spots3 n) ∧ R.length = ms.sum ∧ ∀ x ∈ R, ∃ m ∈ ms, Per (nxt s n) x m
  | [], _, _ => ⟨[], List.nodup_nil, fun _ h => (by cases h), rfl, fun _ h => (by cases h)⟩
  | m :: ms, nd, h => by
    obtain ⟨n1, n2⟩ := List.nodup_cons.mp nd
    obtain ⟨R, r1, r2, r3, r4⟩ := apart_sum hs ms n2 fun x hx => h x (List.mem_cons_of_mem _ hx)
    obtain ⟨q, hq, per⟩ := h m (List.mem_cons_self ..)
    refine ⟨orb (nxt s n) q m ++ R, ?_, fun x hx => ?_, ?_, fun x hx => ?_⟩
    · rw [List.nodup_append]
      refine ⟨per.nodup, r1, fun a ha b hb e => ?_⟩
      subst e
      obtain ⟨m', hm', p'⟩ := r4 a hb
      have := (per.of_mem ha).uniq p'
      rw [this] at n1
      exact n1 hm'
    · exact (List.mem_append.mp hx).elim (orb_in hs hq x) (r2 x)
    · rw [List.length_append, orb_len (fun i _ => per.has i), r3, List.sum_cons]
    · rcases List.mem_append.mp hx with hx | hx
      · exact ⟨m, List.mem_cons_self .., per.of_mem hx⟩
      · obtain ⟨m', h1, h2⟩ := r4 x hx
        exact ⟨m', List.mem_cons_of_mem _ h1, h2⟩
theorem no_twice : ∀ rs : List Nat, ∃ ms : List Nat, ms.Nodup ∧ (∀ m ∈ ms, m ∈ rs) ∧ ∀ r ∈ rs, r ∈ ms
  | [] => ⟨[], List.nodup_nil, fun _ h => h, fun _ h => h⟩
  | r :: rs => by
    obtain ⟨ms, h1, h2, h3⟩ := no_twice rs
    by_cases h : r ∈ ms
    · exact ⟨ms, h1, fun m hm => List.mem_cons_of_mem _ (h2 m hm), fun x hx => by
        rcases List.mem_cons.mp hx with rfl | hx
        · exact h
        · exact h3 x hx⟩
    · refine ⟨r :: ms, List.nodup_cons.mpr ⟨h, h1⟩, fun m hm => ?_, fun x hx => ?_⟩
      · rcases List.mem_cons.mp hm with rfl | hm
        · exact List.mem_cons_self ..
        · exact List.mem_cons_of_mem _ (h2 m hm)
      · rcases List.mem_cons.mp hx with rfl | hx
        · exact List.mem_cons_self ..
        · exact List.mem_cons_of_mem _ (h3 x hx)
def prodL (ms : List Nat) : Nat := ms.foldr (· * ·) 1
theorem dvd_prod : ∀ {ms : List Nat} {m : Nat}, m ∈ ms → m ∣ prodL ms
  | x :: ms, m, h => by
    show m ∣ x * prodL ms
    rcases List.mem_cons.mp h with rfl | h
    · exact Nat.dvd_mul_right _ _
    · exact Nat.dvd_trans (dvd_prod h) (Nat.dvd_mul_left _ _)
theorem lcm_all {M : Nat} : ∀ (rs : List Nat) (a : Nat), a ∣ M → (∀ r ∈ rs, r ∣ M) → rs.foldl Nat.lcm a ∣ M
  | [], a, h, _ => h
  | r :: rs, a, h, k => lcm_all rs _ (Nat.lcm_dvd h (k r (List.mem_cons_self ..))) fun x hx => k x (List.mem_cons_of_mem _ hx)
theorem cube_le : ∀ m < 181, m ^ 3 ≤ 3 ^ m := by decide +kernel
theorem prod_cube : ∀ ms : List Nat, (∀ m ∈ ms, m < 181) → prodL ms ^ 3 ≤ 3 ^ ms.sum
  | [], _ => by decide
  | m :: ms, h => by
    show (m * prodL ms) ^ 3 ≤ _
    rw [Nat.mul_pow, List.sum_cons, Nat.pow_add]
    exact Nat.mul_le_mul (cube_le m (h m (List.mem_cons_self ..))) (prod_cube ms fun x hx => h x (List.mem_cons_of_mem _ hx))
theorem prod_pos : ∀ ms : List Nat, (∀ m ∈ ms, 0 < m) → 0 < prodL ms
  | [], _ => Nat.one_pos
  | m :: ms, h => Nat.mul_pos (h m (List.mem_cons_self ..)) (prod_pos ms fun x hx => h x (List.mem_cons_of_mem _ hx))
theorem lcm_small {ks : List Ky} (gk : GoodH ks) : lcmL (printsK ks) < 10 ^ 40 := by
  obtain ⟨ok, _⟩ := printsK_ok gk
  have hs : SrcRows (farS ks) := tab_srcs ks _ _ _
  have n1 := nr_le true gk
  have n2 := nr_le false gk
  have n3 := held_le gk
  obtain ⟨ms, m1, m2, m3⟩ := no_twice ((printsK ks).filterMap ringM)
  have mem : ∀ m ∈ ms, 0 < m ∧ m ≤ 180 := fun m hm => by
    obtain ⟨t, ht, e⟩ := List.mem_filterMap.mp (m2 m hm)
    obtain ⟨h1, h2, _⟩ := ringM_ok (ok t ht) e
    exact ⟨h1, h2⟩
  obtain ⟨R, r1, r2, r3, _⟩ := apart_sum hs ms m1 fun m hm => prints_per (m2 m hm) ok
  have sum : ms.sum ≤ 180 := by
    have := nodup_le r1 r2
    rw [r3, spots3_len] at this
    exact Nat.le_trans this (by show nr true ks + nr false ks + heldK ks ≤ 180; omega)
  have d : lcmL (printsK ks) ∣ prodL ms := by
    rw [lcmL_sizes]
    exact lcm_all _ 1 (Nat.one_dvd _) fun r hr => dvd_prod (m3 r hr)
  have l1 := Nat.le_of_dvd (prod_pos ms fun m hm => (mem m hm).1) d
  have l2 := prod_cube ms fun m hm => Nat.lt_succ_of_le (mem m hm).2
  have l3 : prodL ms ^ 3 ≤ 3 ^ 180 := Nat.le_trans l2 (Nat.pow_le_pow_right (by decide) sum)
  have l4 : prodL ms < 10 ^ 40 := by
    by_cases h : prodL ms < 10 ^ 40
    · exact h
    · have h1 : (10 ^ 40) ^ 3 ≤ prodL ms ^ 3 := Nat.pow_le_pow_left (by omega) 3
      have h2 : (3 : Nat) ^ 180 < (10 ^ 40) ^ 3 := by decide +kernel
      exact absurd (Nat.lt_of_lt_of_le h2 h1) (by omega)
  omega

/-! ## a key pressed on letters -/
/-- the letters that a key types -/
def lettersD (k : Ky) : List Dt := match k with
  | .write w => w.map fun c => Dt.str [c]
  | _ => []
/-- a key told as a thing: a row -/
def KeyLet (d : Dt) (k : Ky) (ms : List Dt) : Prop := isRow d = true ∧ d.items = kD k ∧ ms = lettersD k
def spKeyL : SpD := fun ws C Q _ => ∃ (d : Dt) (k : Ky) (ms l r c : List Dt) (i j h : Nat), ws = [.d d, .o i, .o j, .o h] ∧ KeyLet d k ms ∧ k.ok ∧ C[i]? = some (.lst (l.map W.d)) ∧ C[j]? = some (.lst (r.map W.d)) ∧ C[h]? = some (.lst (c.map W.d)) ∧ i ≠ j ∧ h ≠ i ∧ h ≠ j ∧ l.length + r.length + c.length + ms.length ≤ 1000000 ∧
  ∀ h' C', (∀ (x : Nat) y, x ≠ i → x ≠ j → C[x]? = some y → C'[x]? = some y) → C'[i]? = some (.lst ((kstep k ms l r c).1.map W.d)) → C'[j]? = some (.lst ((kstep k ms l r c).2.1.map W.d)) → C'[h']? = some (.lst ((kstep k ms l r c).2.2.map W.d)) → h' ≠ i → h' ≠ j → (h' = h ∨ C.length ≤ h') → C.length ≤ C'.length → Q (.o h') C'
theorem nearD_lenL (n : Nat) (x : List Dt) : (nearD n x).length ≤ x.length := by unfold nearD; rw [List.length_reverse, List.length_drop]; omega
theorem okL_do_key (T : Txt K mg w) : FnOk P w K mg base CX0 3 T.f_do_key.f T.f_do_key.fd ["key", "left", "right", "held"] (lft K spKeyL) := by
  refine okD T.f_do_key.F sc_do_key (fun ws C Q X h => ?_) (fun cv A out s H E hr => ⟨_, (pss_cons (ps_set (i := 4) sc_do_key.nd rfl (.inl rfl) (pe_ix (ix_seqK K) (pv 0) pe_int (fun _ _ => rfl)))
      (pss_cons (ps_if (pt_cmpR (q_eqA K hr.units) (pv 4) pe_strL (nomark _)) (pss_one (ps_expr (pe_bmK K PySem.F.plainAttrs_list PySem.F.slot_list_extend PySem.F.type_list_extend mt_extend (pv 1) (pa_cons (pe_callTy (q_listT rfl) (by rfl) T.b_list (by decide +kernel) (pa_cons (pe_ix (ix_seqK K) (pv 0) pe_int (fun _ _ => rfl)) pa_nil)) pa_nil)))) (pss_one (ps_if (pt_cmpR (q_eqA K hr.units) (pv 4) pe_strL (nomark _)) (pss_one (ps_expr (pe_bmK K PySem.F.plainAttrs_list PySem.F.slot_list_extend PySem.F.type_list_extend mt_extend (pv 1) (pa_cons (pv 3) pa_nil)))) (pss_one (ps_if (pt_cmpR (q_eqA K hr.units) (pv 4) pe_strL (nomark _)) (pss_one (ps_expr (pe_bmK K PySem.F.plainAttrs_list PySem.F.slot_list_extend PySem.F.type_list_extend mt_extend (pv 2) (pa_cons (pe_call (ok_take T) (hr.mono (by first | decide | omega)) (by rfl) T.f_take.g T.f_take.F.kp T.f_take.b .nil pass0 (pa_cons (pv 1) (pa_cons (pe_ix (ix_seqK K) (pv 0) pe_int (fun _ _ => rfl)) pa_nil))) pa_nil)))) (pss_one (ps_if (pt_cmpR (q_eqA K hr.units) (pv 4) pe_strL (nomark _)) (pss_one (ps_expr (pe_bmK K PySem.F.plainAttrs_list PySem.F.slot_list_extend PySem.F.type_list_extend mt_extend (pv 1) (pa_cons (pe_call (ok_take T) (hr.mono (by first | decide | omega)) (by rfl) T.f_take.g T.f_take.F.kp T.f_take.b .nil pass0 (pa_cons (pv 2) (pa_cons (pe_ix (ix_seqK K) (pv 0) pe_int (fun _ _ => rfl)) pa_nil))) pa_nil)))) (pss_one (ps_if (pt_cmpR (q_eqA K hr.units) (pv 4) pe_strL (nomark _)) (pss_one (ps_expr (pe_call (ok_take T) (hr.mono (by first | decide | omega)) (by rfl) T.f_take.g T.f_take.F.kp T.f_take.b .nil pass0 (pa_cons (pv 1) (pa_cons (pe_ix (ix_seqK K) (pv 0) pe_int (fun _ _ => rfl)) pa_nil))))) (pss_one (ps_if (pt_cmpR (q_eqA K hr.units) (pv 4) pe_strL (nomark _)) (pss_one (ps_expr (pe_call (ok_take T) (hr.mono (by first | decide | omega)) (by rfl) T.f_take.g T.f_take.F.kp T.f_take.b .nil pass0 (pa_cons (pv 2) (pa_cons (pe_ix (ix_seqK K) (pv 0) pe_int (fun _ _ => rfl)) pa_nil))))) (pss_one (ps_if (pt_cmpR (q_eqA K hr.units) (pv 4) pe_strL (nomark _)) (pss_one (ps_ret (pe_call (ok_nearest T) (hr.mono (by first | decide | omega)) (by rfl) T.f_nearest.g T.f_nearest.F.kp T.f_nearest.b .nil pass0 (pa_cons (pv 2) (pa_cons (pe_ix (ix_seqK K) (pv 0) pe_int (fun _ _ => rfl)) pa_nil))))) (pss_one (ps_ret (pe_call (ok_take T) (hr.mono (by first | decide | omega)) (by rfl) T.f_take.g T.f_take.F.kp T.f_take.b .nil pass0 (pa_cons (pv 2) (pa_cons (pe_ix (ix_seqK K) (pv 0) pe_int (fun _ _ => rfl)) pa_nil))))))))))))))))))
      (pss_one (ps_ret (pv 3))))), _, inferInstance, fun ws C Q X h => ?_⟩)
  · obtain ⟨d, k, ms, l, r, c, i, j, h, rfl, _⟩ := h
    rfl
  obtain ⟨d, k, ms, l, r, c, i, j, h, rfl, ⟨hr1, hk, rfl⟩, hok, hi, hj, hh, ij, hi2, hj2, hl, q⟩ := h
  have li := lt_at hi
  have lj := lt_at hj
  have lh := lt_at hh
  walk_at "dw"
  have o1 : ∀ {X : Cell}, (C ++ [X])[C.length]? = some X := last_at
  cases k with
  | paste =>
    rw [ixW_row (x := .str (cd "paste")) hr1 (by rw [hk]; exact atI_0)]
    walk_at "dw"
    rw [if_neg (by decide +kernel)]
    simp only [decide_true]
    walk_at "dw"
    simp only [hi, hh]
    refine ⟨rfl, by rw [List.length_map, List.length_map]; omega, ret.same (q h _ (fun x y x1 x2 hx => by rw [set_off (Ne.symm x1)]; exact hx) (by rw [set_at hi, ← List.map_append]; rfl) (by rw [set_off ij]; exact hj) (by rw [set_off (Ne.symm hi2)]; exact hh) hi2 hj2 (.inl rfl) (by rw [List.length_set]; exact Nat.le_refl _))⟩
  | write z =>
    rw [ixW_row (x := .str (cd "write")) hr1 (by rw [hk]; exact atI_0)]
    walk_at "dw"
    simp only [decide_true]
    walk_at "dw"
    simp only [hi]
    rw [ixW_row (x := .str z) hr1 (by rw [hk]; exact atI_1)]
    walk_at "dw"
    rw [show (z.map fun c => W.d (.str [c])) = (lettersD (.write z)).map W.d by unfold lettersD; rw [List.map_map]; rfl]
    refine newL_o ?_
    simp only [app_at (ex := [Cell.lst ((lettersD (.write z)).map W.d)]) hi, last_at]
    refine ⟨by rw [List.length_map, List.length_map]; omega, ret.same (q h _ (fun x y x1 x2 hx => by rw [set_off (Ne.symm x1)]; exact app_at hx) (by rw [set_at (app_at hi), ← List.map_append]; rfl) (by rw [set_off ij]; exact app_at hj) (by rw [set_off (Ne.symm hi2)]; exact app_at hh) hi2 hj2 (.inl rfl) (by rw [List.length_set, List.length_append]; omega))⟩
  | left n =>
    rw [ixW_row (x := .str (cd "left")) hr1 (by rw [hk]; exact atI_0)]
    walk_at "dw"
    rw [if_neg (by decide +kernel), if_neg (by decide +kernel)]
    simp only [decide_true]
    walk_at "dw"
    simp only [hj]
    rw [ixW_row (x := .int (n : Nat)) hr1 (by rw [hk]; exact atI_1)]
    walk_at "dw"
    refine ⟨i, n, l, rfl, hok, hi, ?_⟩
    have f1 : ((C ++ [Cell.lst ((nearD n l).map W.d)]).set i (.lst ((farD n l).map W.d)))[j]? = some (.lst (r.map W.d)) := by rw [set_off ij]; exact app_at hj
    have f2 : ((C ++ [Cell.lst ((nearD n l).map W.d)]).set i (.lst ((farD n l).map W.d)))[C.length]? = some (.lst ((nearD n l).map W.d)) := by rw [set_off (by omega)]; exact last_at
    have nl := nearD_lenL n l
    simp only [f1, f2]
    refine ⟨by rw [List.length_map, List.length_map]; omega, ret.same (q h _ (fun x y x1 x2 hx => by rw [set_off (Ne.symm x2), set_off (Ne.symm x1)]; exact app_at hx) ?_ ?_ (by rw [set_off (Ne.symm hj2), set_off (Ne.symm hi2)]; exact app_at hh) hi2 hj2 (.inl rfl) (by rw [List.length_set, List.length_set, List.length_append]; omega))⟩
    · rw [set_off (Ne.symm ij), set_at (app_at hi)]
      rfl
    · rw [set_at f1, ← List.map_append]
      rfl
  | right n =>
    rw [ixW_row (x := .str (cd "right")) hr1 (by rw [hk]; exact atI_0)]
    walk_at "dw"
    rw [if_neg (by decide +kernel), if_neg (by decide +kernel), if_neg (by decide +kernel)]
    simp only [decide_true]
    walk_at "dw"
    simp only [hi]
    rw [ixW_row (x := .int (n : Nat)) hr1 (by rw [hk]; exact atI_1)]
    walk_at "dw"
    refine ⟨j, n, r, rfl, hok, hj, ?_⟩
    have f1 : ((C ++ [Cell.lst ((nearD n r).map W.d)]).set j (.lst ((farD n r).map W.d)))[i]? = some (.lst (l.map W.d)) := by rw [set_off (Ne.symm ij)]; exact app_at hi
    have f2 : ((C ++ [Cell.lst ((nearD n r).map W.d)]).set j (.lst ((farD n r).map W.d)))[C.length]? = some (.lst ((nearD n r).map W.d)) := by rw [set_off (by omega)]; exact last_at
    have nl := nearD_lenL n r
    simp only [f1, f2]
    refine ⟨by rw [List.length_map, List.length_map]; omega, ret.same (q h _ (fun x y x1 x2 hx => by rw [set_off (Ne.symm x1), set_off (Ne.symm x2)]; exact app_at hx) ?_ ?_ (by rw [set_off (Ne.symm hi2), set_off (Ne.symm hj2)]; exact app_at hh) hi2 hj2 (.inl rfl) (by rw [List.length_set, List.length_set, List.length_append]; omega))⟩
    · rw [set_at f1, ← List.map_append]
      rfl
    · rw [set_off ij, set_at (app_at hj)]
      rfl
  | rub n =>
    rw [ixW_row (x := .str (cd "rub")) hr1 (by rw [hk]; exact atI_0)]
    walk_at "dw"
    rw [if_neg (by decide +kernel), if_neg (by decide +kernel), if_neg (by decide +kernel), if_neg (by decide +kernel)]
    simp only [decide_true]
    walk_at "dw"
    rw [ixW_row (x := .int (n : Nat)) hr1 (by rw [hk]; exact atI_1)]
    walk_at "dw"
    refine ⟨i, n, l, rfl, hok, hi, ?_⟩
    refine ret.same (q h _ (fun x y x1 x2 hx => by rw [set_off (Ne.symm x1)]; exact app_at hx) ?_ ?_ (by rw [set_off (Ne.symm hi2)]; exact app_at hh) hi2 hj2 (.inl rfl) (by rw [List.length_set, List.length_append]; omega))
    · rw [set_at (app_at hi)]
      rfl
    · rw [set_off ij]
      exact app_at hj
  | strike n =>
    rw [ixW_row (x := .str (cd "strike")) hr1 (by rw [hk]; exact atI_0)]
    walk_at "dw"
    rw [if_neg (by decide +kernel), if_neg (by decide +kernel), if_neg (by decide +kernel), if_neg (by decide +kernel), if_neg (by decide +kernel)]
    simp only [decide_true]
    walk_at "dw"
    rw [ixW_row (x := .int (n : Nat)) hr1 (by rw [hk]; exact atI_1)]
    walk_at "dw"
    refine ⟨j, n, r, rfl, hok, hj, ?_⟩
    refine ret.same (q h _ (fun x y x1 x2 hx => by rw [set_off (Ne.symm x2)]; exact app_at hx) ?_ ?_ (by rw [set_off (Ne.symm hj2)]; exact app_at hh) hi2 hj2 (.inl rfl) (by rw [List.length_set, List.length_append]; omega))
    · rw [set_off (Ne.symm ij)]
      exact app_at hi
    · rw [set_at (app_at hj)]
      rfl
  | copy n =>
    rw [ixW_row (x := .str (cd "copy")) hr1 (by rw [hk]; exact atI_0)]
    walk_at "dw"
    rw [if_neg (by decide +kernel), if_neg (by decide +kernel), if_neg (by decide +kernel), if_neg (by decide +kernel), if_neg (by decide +kernel), if_neg (by decide +kernel)]
    simp only [decide_true]
    walk_at "dw"
    rw [ixW_row (x := .int (n : Nat)) hr1 (by rw [hk]; exact atI_1)]
    walk_at "dw"
    exact ⟨j, n, r, rfl, hok, hj, ret.same (q C.length _ (fun x y x1 x2 hx => app_at hx) (app_at hi) (app_at hj) last_at (by omega) (by omega) (.inr (Nat.le_refl _)) (by rw [List.length_append]; omega))⟩
  | cut n =>
    rw [ixW_row (x := .str (cd "cut")) hr1 (by rw [hk]; exact atI_0)]
    walk_at "dw"
    rw [if_neg (by decide +kernel), if_neg (by decide +kernel), if_neg (by decide +kernel), if_neg (by decide +kernel), if_neg (by decide +kernel), if_neg (by decide +kernel), if_neg (by decide +kernel)]
    walk_at "dw"
    rw [ixW_row (x := .int (n : Nat)) hr1 (by rw [hk]; exact atI_1)]
    walk_at "dw"
    refine ⟨j, n, r, rfl, hok, hj, ret.same (q C.length _ (fun x y x1 x2 hx => by rw [set_off (Ne.symm x2)]; exact app_at hx) (by rw [set_off (Ne.symm ij)]; exact app_at hi) (by rw [set_at (app_at hj)]; rfl) (by rw [set_off (by omega)]; exact last_at) (by omega) (by omega) (.inr (Nat.le_refl _)) (by rw [List.length_set, List.length_append]; omega))⟩

/-! ## letters by where they come from -/
def mapS (g : Dt → Nat) (s : Sid) : Sd Nat := ⟨s.l.map g, s.r.map g, s.c.map g⟩
theorem near_mapD (g : Dt → Nat) (x : List Dt) (n : Nat) : near (x.map g) n = (nearD n x).map g := near_map g x n
theorem rest_mapD (g : Dt → Nat) (x : List Dt) (n : Nat) : rest (x.map g) n = (farD n x).map g := rest_map g x n
def TypedBy (ks : List Ky) (g : Dt → Nat) : Prop := ∀ (i : Nat) (w : List Nat), ks[i]? = some (.write w) → ∀ a, a < w.length → g (typedD i a) = w.getD a 0
theorem kst_letters {ks : List Ky} {g : Dt → Nat} (hg : TypedBy ks g) (s : Sid) : ∀ i, steps id (ks.take i) (mapS g s) = mapS g (kst ks s i)
  | 0 => rfl
  | i + 1 => by
    cases h : ks[i]? with
    | none =>
      have e : kst ks s (i + 1) = kst ks s i := by
        conv => lhs; unfold kst
        rw [h]
      have hl := List.getElem?_eq_none_iff.mp h
      rw [e, ← kst_letters hg s i, List.take_of_length_le (by omega), List.take_of_length_le hl]
    | some k =>
      have e : kst ks s (i + 1) = ⟨(kstep k (marksD i k) (kst ks s i).l (kst ks s i).r (kst ks s i).c).1, (kstep k (marksD i k) (kst ks s i).l (kst ks s i).r (kst ks s i).c).2.1, (kstep k (marksD i k) (kst ks s i).l (kst ks s i).r (kst ks s i).c).2.2⟩ := by
        conv => lhs; unfold kst
        rw [h]
      rw [List.take_add_one, h, Option.toList_some, steps_app, kst_letters hg s i, e]
      generalize kst ks s i = z
      obtain ⟨l, r, c⟩ := z
      show step id k (mapS g ⟨l, r, c⟩) = _
      cases k with
      | write w =>
        show Sd.mk (l.map g ++ w.map id) (r.map g) (c.map g) = Sd.mk ((l ++ marksD i (.write w)).map g) (r.map g) (c.map g)
        have : w.map id = (marksD i (.write w)).map g := by
          unfold marksD
          rw [List.map_map]
          refine List.ext_getElem? fun a => ?_
          rw [List.getElem?_map, List.getElem?_map]
          by_cases ha : a < w.length
          · rw [List.getElem?_range ha, List.getElem?_eq_getElem ha]
            show some w[a] = some (g (typedD i a))
            rw [hg i w h a ha, List.getD_eq_getElem?_getD, List.getElem?_eq_getElem ha]
            rfl
          · rw [List.getElem?_eq_none (by omega), List.getElem?_eq_none (by rw [List.length_range]; omega)]
            rfl
        rw [this, List.map_append]
      | paste => show Sd.mk (l.map g ++ c.map g) (r.map g) (c.map g) = Sd.mk ((l ++ c).map g) (r.map g) (c.map g); rw [List.map_append]
      | left n => show Sd.mk (rest (l.map g) n) (r.map g ++ near (l.map g) n) (c.map g) = Sd.mk ((farD n l).map g) ((r ++ nearD n l).map g) (c.map g); rw [rest_mapD, near_mapD, List.map_append]
      | right n => show Sd.mk (l.map g ++ near (r.map g) n) (rest (r.map g) n) (c.map g) = Sd.mk ((l ++ nearD n r).map g) ((farD n r).map g) (c.map g); rw [rest_mapD, near_mapD, List.map_append]
      | rub n => show Sd.mk (rest (l.map g) n) (r.map g) (c.map g) = Sd.mk ((farD n l).map g) (r.map g) (c.map g); rw [rest_mapD]
      | strike n => show Sd.mk (l.map g) (rest (r.map g) n) (c.map g) = Sd.mk (l.map g) ((farD n r).map g) (c.map g); rw [rest_mapD]
      | copy n => show Sd.mk (l.map g) (r.map g) (near (r.map g) n) = Sd.mk (l.map g) (r.map g) ((nearD n r).map g); rw [near_mapD]
      | cut n => show Sd.mk (l.map g) (rest (r.map g) n) (near (r.map g) n) = Sd.mk (l.map g) ((farD n r).map g) ((nearD n r).map g); rw [rest_mapD, near_mapD]
/-- the letters of a side, nearest first; the clip's, first one first -/
def viewL (X : Sd Nat) : Nat → List Nat
  | 0 => X.l.reverse
  | 1 => X.r.reverse
  | _ => X.c
def typL (ks : List Ky) (i a : Nat) : Nat := match ks[i]? with
  | some (.write w) => w.getD a 0
  | _ => 0
/-- the letter that a source is -/
def letG (ks : List Ky) (X : Sd Nat) (x : Dt) : Nat := match asSpot x with
  | some p => (viewL X p.1).getD p.2 0
  | none => match x with
    | .tup [.str _, .int i, .int a] => typL ks i.toNat a.toNat
    | _ => 0
theorem letG_spot {ks : List Ky} {X : Sd Nat} {sd dp : Nat} (h : sd < 3) : letG ks X (spotD sd dp) = (viewL X sd).getD dp 0 := by
  unfold letG
  rw [asSpot_spot h]
theorem letG_typed {ks : List Ky} {X : Sd Nat} {i a : Nat} : letG ks X (typedD i a) = typL ks i a := by
  unfold letG
  rw [asSpot_typed]
  show typL ks (i : Int).toNat (a : Int).toNat = _
  rw [Int.toNat_natCast, Int.toNat_natCast]
theorem letG_by {ks : List Ky} {X : Sd Nat} : TypedBy ks (letG ks X) := fun i w h a _ => by
  rw [letG_typed]
  unfold typL
  rw [h]
theorem map_row {ks : List Ky} {X : Sd Nat} {sd : Nat} (h : sd < 3) : (rowD (sideS sd) (viewL X sd).length).map (letG ks X) = viewL X sd := by
  unfold rowD
  rw [List.map_map]
  refine List.ext_getElem? fun a => ?_
  rw [List.getElem?_map]
  by_cases ha : a < (viewL X sd).length
  · rw [List.getElem?_range ha, List.getElem?_eq_getElem ha]
    show some (letG ks X (spotD sd a)) = _
    rw [letG_spot h, List.getD_eq_getElem?_getD, List.getElem?_eq_getElem ha]
    rfl
  · rw [List.getElem?_eq_none (by rw [List.length_range]; omega), List.getElem?_eq_none (by omega)]
    rfl
/-- a pressing by its table -/
theorem press_tab {ks : List Ky} {X : Sd Nat} : steps id ks X = ⟨((tabD ks X.l.length X.r.length X.c.length).l.map (letG ks X)).reverse, ((tabD ks X.l.length X.r.length X.c.length).r.map (letG ks X)).reverse, (tabD ks X.l.length X.r.length X.c.length).c.map (letG ks X)⟩ := by
  have e := kst_letters (letG_by (ks := ks) (X := X)) (sid0 X.l.length X.r.length X.c.length) ks.length
  have e0 : mapS (letG ks X) (sid0 X.l.length X.r.length X.c.length) = X := by
    have h0 := map_row (ks := ks) (X := X) (sd := 0) (by decide)
    have h1 := map_row (ks := ks) (X := X) (sd := 1) (by decide)
    have h2 := map_row (ks := ks) (X := X) (sd := 2) (by decide)
    have l0 : (viewL X 0).length = X.l.length := List.length_reverse
    have l1 : (viewL X 1).length = X.r.length := List.length_reverse
    rw [l0] at h0
    rw [l1] at h1
    unfold mapS sid0
    obtain ⟨l, r, c⟩ := X
    have h0' := congrArg List.reverse h0
    have h1' := congrArg List.reverse h1
    rw [← List.map_reverse] at h0' h1'
    have e1 : (viewL ⟨l, r, c⟩ 0).reverse = l := List.reverse_reverse l
    have e2 : (viewL ⟨l, r, c⟩ 1).reverse = r := List.reverse_reverse r
    rw [e1] at h0'
    rw [e2] at h1'
    show Sd.mk _ _ _ = Sd.mk l r c
    congr 1
  rw [List.take_length, e0] at e
  rw [e]
  unfold mapS tabD
  simp only [List.map_reverse, List.reverse_reverse]
theorem tab_far2 {ks : List Ky} {L R c m1 m2 : Nat} (f1 : fits true ks ⟨L, R, c⟩) (f2 : fits false ks ⟨L, R, c⟩) :
    tabD ks (L + m1) (R + m2) c = ⟨(tabD ks L R c).l ++ more 0 L m1, (tabD ks L R c).r ++ more 1 R m2, (tabD ks L R c).c⟩ := by
  have e : sid0 (L + m1) (R + m2) c = farS' (more 0 L m1).reverse (more 1 R m2).reverse (sid0 L R c) := by
    unfold sid0 farS'
    have e1 : rowD (cd "left") (L + m1) = rowD (cd "left") L ++ more 0 L m1 := rowD_more 0 L m1
    have e2 : rowD (cd "right") (R + m2) = rowD (cd "right") R ++ more 1 R m2 := rowD_more 1 R m2
    rw [e1, e2, List.reverse_append, List.reverse_append]
  unfold tabD
  rw [e, kst_far _ _ (by rw [sid0_ln]; exact f1) (by rw [sid0_ln]; exact f2)]
  unfold farS'
  rw [List.reverse_append, List.reverse_append, List.reverse_reverse, List.reverse_reverse]
/-- far from all ends -/
structure Wide (ks : List Ky) (X : Sd Nat) : Prop where
  l : (farN ks).1 ≤ X.l.length
  r : (farN ks).2.1 ≤ X.r.length
  c : X.c.length = heldK ks
theorem more_at {sd L m k : Nat} (h : k < m) : (more sd L m)[k]? = some (spotD sd (L + k)) := by
  unfold more
  rw [List.getElem?_map, List.getElem?_range h]
  rfl
theorem wide_step {ks : List Ky} (gk : GoodH ks) {X : Sd Nat} (w : Wide ks X) :
    (steps id ks X).l.length + (farN ks).1 = X.l.length + (farS ks).l.length ∧ (steps id ks X).r.length + (farN ks).2.1 = X.r.length + (farS ks).r.length ∧ (steps id ks X).c.length = heldK ks ∧
    (∀ sd, sd < 3 → ∀ d, d < (viewL (steps id ks X) sd).length → (sd = 2 → d < heldK ks) → (viewL (steps id ks X) sd).getD d 0 = letG ks X (srcAt (farS ks) (farN ks) sd d)) := by
  obtain ⟨f1, f2⟩ := near_fits gk (Nat.le_refl (nr true ks)) (Nat.le_refl (nr false ks))
  obtain ⟨m1, h1⟩ := Nat.exists_eq_add_of_le w.l
  obtain ⟨m2, h2⟩ := Nat.exists_eq_add_of_le w.r
  have h1 : X.l.length = nr true ks + m1 := h1
  have h2 : X.r.length = nr false ks + m2 := h2
  have hc := tab_clip f2
  have pt := press_tab (ks := ks) (X := X)
  rw [h1, h2, w.c, tab_far2 f1 f2] at pt
  have lm : ∀ sd L m, (more sd L m).length = m := fun sd L m => by unfold more; rw [List.length_map, List.length_range]
  have hN1 : (farN ks).1 = nr true ks := rfl
  have hN2 : (farN ks).2.1 = nr false ks := rfl
  have hS : farS ks = tabD ks (nr true ks) (nr false ks) (heldK ks) := rfl
  rw [pt, ← hS]
  rw [← hS] at hc
  refine ⟨?_, ?_, ?_, ?_⟩
  · simp only [List.length_reverse, List.length_map, List.length_append, lm]
    omega
  · simp only [List.length_reverse, List.length_map, List.length_append, lm]
    omega
  · simp only [List.length_map]
    exact hc
  · have side : ∀ (x : List Dt) (sd L m d : Nat), d < (x ++ more sd L m).length → ((x ++ more sd L m).map (letG ks X)).getD d 0 = letG ks X (match x[d]? with | some y => y | none => spotD sd (d - x.length + L)) := by
      intro x sd L m d hd
      rw [List.getD_eq_getElem?_getD, List.getElem?_map]
      by_cases hx : d < x.length
      · rw [List.getElem?_append_left hx, List.getElem?_eq_getElem hx]
        rfl
      · have e0 : x[d]? = none := List.getElem?_eq_none (by omega)
        rw [List.length_append, lm] at hd
        rw [List.getElem?_append_right (by omega), e0, more_at (by omega)]
        show letG ks X (spotD sd (L + (d - x.length))) = letG ks X (spotD sd (d - x.length + L))
        rw [Nat.add_comm]
    intro sd hsd d hd hd2
    match sd, hsd with
    | 0, _ =>
      have hd : d < (((farS ks).l ++ more 0 (nr true ks) m1).map (letG ks X)).reverse.reverse.length := hd
      rw [List.reverse_reverse, List.length_map] at hd
      show ((((farS ks).l ++ more 0 (nr true ks) m1).map (letG ks X)).reverse.reverse).getD d 0 = _
      rw [List.reverse_reverse]
      exact side _ 0 _ _ d hd
    | 1, _ =>
      have hd : d < (((farS ks).r ++ more 1 (nr false ks) m2).map (letG ks X)).reverse.reverse.length := hd
      rw [List.reverse_reverse, List.length_map] at hd
      show ((((farS ks).r ++ more 1 (nr false ks) m2).map (letG ks X)).reverse.reverse).getD d 0 = _
      rw [List.reverse_reverse]
      exact side _ 1 _ _ d hd
    | 2, _ =>
      have hd := hd2 rfl
      show ((farS ks).c.map (letG ks X)).getD d 0 = letG ks X (match (farS ks).c[d]? with | some y => y | none => _)
      rw [List.getD_eq_getElem?_getD, List.getElem?_map, List.getElem?_eq_getElem (by omega)]
      rfl

/-! ## what prints come again -/
def gainL (ks : List Ky) : Nat := (farS ks).l.length - (farN ks).1
/-- so many pressings -/
def prs (ks : List Ky) (X : Sd Nat) (t : Nat) : Sd Nat := presses id ks t X
theorem prs_succ (ks : List Ky) (X : Sd Nat) (t : Nat) : prs ks X (t + 1) = steps id ks (prs ks X t) := presses_succ id ks t X
/-- far from all ends for so many pressings, letters left on the left -/
structure WideT (ks : List Ky) (X : Sd Nat) (T : Nat) : Prop where
  gk : GoodH ks
  gain : (farN ks).1 ≤ (farS ks).l.length
  w0 : Wide ks X
  rt : ∀ t, t ≤ T → (farN ks).2.1 + t * (farN ks).2.1 ≤ X.r.length + t * (farS ks).r.length
theorem wide_at {ks : List Ky} {X : Sd Nat} {T : Nat} (h : WideT ks X T) : ∀ t, t ≤ T → Wide ks (prs ks X t) ∧ (prs ks X t).l.length = X.l.length + t * gainL ks ∧ (prs ks X t).r.length + t * (farN ks).2.1 = X.r.length + t * (farS ks).r.length
  | 0, _ => ⟨h.w0, by rw [Nat.zero_mul]; rfl, by rw [Nat.zero_mul, Nat.zero_mul]; rfl⟩
  | t + 1, ht => by
    obtain ⟨w, l1, r1⟩ := wide_at h t (by omega)
    obtain ⟨s1, s2, s3, _⟩ := wide_step h.gk w
    have hr := h.rt (t + 1) ht
    have hg := h.gain
    have m1 : (t + 1) * gainL ks = t * gainL ks + gainL ks := Nat.succ_mul _ _
    have m2 : (t + 1) * (farN ks).2.1 = t * (farN ks).2.1 + (farN ks).2.1 := Nat.succ_mul _ _
    have m3 : (t + 1) * (farS ks).r.length = t * (farS ks).r.length + (farS ks).r.length := Nat.succ_mul _ _
    have hgl : gainL ks + (farN ks).1 = (farS ks).l.length := by unfold gainL; omega
    have wl := w.l
    rw [prs_succ]
    rw [m2, m3] at hr
    refine ⟨⟨by omega, by omega, s3⟩, by rw [m1]; omega, by rw [m2, m3]; omega⟩
/-- a near spot's letter, one pressing back -/
theorem let_back {ks : List Ky} {X : Sd Nat} {T t : Nat} (h : WideT ks X T) (ht : t < T) {p : Nat × Nat} (hp : nearP (farN ks) p) : letG ks (prs ks X (t + 1)) (spotD p.1 p.2) = letG ks (prs ks X t) (srcAt (farS ks) (farN ks) p.1 p.2) := by
  obtain ⟨w, _, _⟩ := wide_at h t (by omega)
  obtain ⟨w', _, _⟩ := wide_at h (t + 1) (by omega)
  obtain ⟨_, _, _, s4⟩ := wide_step h.gk w
  rw [letG_spot hp.1, prs_succ]
  rw [prs_succ] at w'
  refine s4 p.1 hp.1 p.2 ?_ ?_
  · obtain ⟨a, b⟩ := p
    obtain ⟨h3, hd⟩ := hp
    match a, h3 with
    | 0, _ =>
      have hd : b < (farN ks).1 := hd
      have := w'.l
      show b < (steps id ks (prs ks X t)).l.reverse.length
      rw [List.length_reverse]
      omega
    | 1, _ =>
      have hd : b < (farN ks).2.1 := hd
      have := w'.r
      show b < (steps id ks (prs ks X t)).r.reverse.length
      rw [List.length_reverse]
      omega
    | 2, _ =>
      have hd : b < heldK ks := hd
      have := w'.c
      show b < (steps id ks (prs ks X t)).c.length
      omega
  · intro e
    have := hp.2
    rw [e] at this
    exact this
theorem let_orb {ks : List Ky} {X : Sd Nat} {T : Nat} (h : WideT ks X T) {p : Nat × Nat} (hp : nearP (farN ks) p) : ∀ (i : Nat) (q : Nat × Nat), itn (nxt (farS ks) (farN ks)) i p = some q → ∀ t, t + i ≤ T → letG ks (prs ks X (t + i)) (spotD p.1 p.2) = letG ks (prs ks X t) (spotD q.1 q.2)
  | 0, q, e, t, _ => by cases e; rfl
  | i + 1, q, e, t, ht => by
    have hs : SrcRows (farS ks) := tab_srcs ks _ _ _
    cases e1 : itn (nxt (farS ks) (farN ks)) i p with
    | none => unfold itn at e; rw [e1] at e; cases e
    | some r =>
      unfold itn at e
      rw [e1] at e
      have nr := itn_near hs hp i r e1
      obtain ⟨_, _, e3⟩ := nxt_near hs nr.1 e
      have h1 := let_orb h hp i r e1 (t + 1) (by omega)
      rw [show t + (i + 1) = t + 1 + i by omega, h1, let_back h (by omega) nr, e3]
theorem let_ring {ks : List Ky} {X : Sd Nat} {T : Nat} (h : WideT ks X T) {q : Nat × Nat} (hq : nearP (farN ks) q) {m : Nat} (per : Per (nxt (farS ks) (farN ks)) q m) : ∀ (k t : Nat), t + m * k ≤ T → letG ks (prs ks X (t + m * k)) (spotD q.1 q.2) = letG ks (prs ks X t) (spotD q.1 q.2)
  | 0, t, _ => rfl
  | k + 1, t, ht => by
    rw [Nat.mul_succ] at ht ⊢
    rw [show t + (m * k + m) = (t + m * k) + m by omega, let_orb h hq m q per.2.1 (t + m * k) (by omega)]
    exact let_ring h hq per k t (by omega)
theorem printY {ks : List Ky} (gk : GoodH ks) {dp : Nat} (hL : (farN ks).1 ≤ dp) (hd : dp < (farS ks).l.length) {qs : List (Nat × Nat)} {x : Dt} (hx : IsSrc x) (h : RowX (farS ks) (farN ks) (srcAt (farS ks) (farN ks) 0 dp) qs x) :
    (∃ (p q : Nat × Nat) (i : Nat), srcAt (farS ks) (farN ks) 0 dp = spotD p.1 p.2 ∧ nearP (farN ks) p ∧ nearP (farN ks) q ∧ itn (nxt (farS ks) (farN ks)) i p = some q ∧ i < qs.length ∧ Per (nxt (farS ks) (farN ks)) q (qs.length - i) ∧ printD (farS ks) (farN ks) (0, dp) = ringT (some (qs.length - i))) ∨
    (printD (farS ks) (farN ks) (0, dp) = offD x ∧ ((x = srcAt (farS ks) (farN ks) 0 dp ∧ qs = []) ∨ ∃ p r : Nat × Nat, srcAt (farS ks) (farN ks) 0 dp = spotD p.1 p.2 ∧ nearP (farN ks) p ∧ nearP (farN ks) r ∧ 0 < qs.length ∧ itn (nxt (farS ks) (farN ks)) (qs.length - 1) p = some r ∧ x = srcAt (farS ks) (farN ks) r.1 r.2)) := by
  have hs : SrcRows (farS ks) := tab_srcs ks _ _ _
  have hl : (farN ks).1 ≤ (farS ks).l.length := by omega
  have n0 := nxt_src (n := farN ks) hs (r := (0, dp)) (show 0 < 3 by decide)
  dsimp only at n0
  have no_in : ∀ (qs : List (Nat × Nat)), (∀ q ∈ qs, nearP (farN ks) q) → isNr (farN ks) x = false → x ∉ qs.map fun q => spotD q.1 q.2 := fun qs hq hn hm => by
    obtain ⟨q, h1, rfl⟩ := List.mem_map.mp hm
    obtain ⟨a, b⟩ := hq q h1
    rw [near_spot a, decide_eq_true b] at hn
    cases hn
  rcases h with ⟨h1, rfl, rfl⟩ | ⟨p, e, hp, j, hj, rfl, hex⟩
  · refine .inr ⟨?_, .inl ⟨rfl, rfl⟩⟩
    unfold printD
    have hno : nxt (farS ks) (farN ks) (0, dp) = none := by
      rcases n0 with ⟨r', e1, e2, e3⟩ | ⟨_, e⟩
      · obtain ⟨a1, a2, a3⟩ := nxt_near hs (p := (0, dp)) (show 0 < 3 by decide) e3
        have : isNr (farN ks) (srcAt (farS ks) (farN ks) 0 dp) = true := by rw [e1, near_spot a1]; exact decide_eq_true a2
        rw [h1] at this
        cases this
      · exact e
    exact prF_off 0 _ (0, dp) (0, dp) rfl hno (Nat.succ_pos _)
  · have nx : nxt (farS ks) (farN ks) (0, dp) = some p := by
      rcases n0 with ⟨r', e1, e2, e3⟩ | ⟨e1, _⟩
      · have := (spot_inj hp.1 e2).mp (e1.symm.trans e)
        rw [← this]
        exact e3
      · rw [e, near_spot hp.1, decide_eq_true hp.2] at e1
        cases e1
    obtain ⟨l1, l2⟩ := hj.len hs hp
    have nr := hj.near hs hp
    rcases hex with hin | hoff
    · refine .inl ?_
      obtain ⟨q, hq, rfl⟩ := List.mem_map.mp hin
      obtain ⟨i, hi, ei⟩ := mem_orb.mp hq
      have nq := nr q hq
      have ej : itn (nxt (farS ks) (farN ks)) j p = some q := by
        rcases hj.now with ⟨r', e1, e2, e3⟩ | ⟨e1, _⟩
        · have := (spot_inj e2 nq.1).mp e1
          rw [this]
          exact e3
        · rw [near_spot nq.1, decide_eq_true nq.2] at e1; cases e1
      have at_orb : ∀ m, m < j → (orb (nxt (farS ks) (farN ks)) p j)[m]? = itn (nxt (farS ks) (farN ks)) m p := fun m hm => by
        have : ∀ J, J ≤ j → m < J → (orb (nxt (farS ks) (farN ks)) p J)[m]? = itn (nxt (farS ks) (farN ks)) m p := fun J => by
          induction J with
          | zero => intro _ h; omega
          | succ J ih =>
            intro h1 h2
            obtain ⟨y, hy⟩ := hj.has J (by omega)
            have lJ := orb_len (f := nxt (farS ks) (farN ks)) (p := p) (m := J) fun i hi => hj.has i (by omega)
            rw [orb_succ hy]
            by_cases h3 : m < J
            · rw [List.getElem?_append_left (by omega)]
              exact ih (by omega) h3
            · have : m = J := by omega
              subst this
              rw [List.getElem?_append_right (by omega), lJ, Nat.sub_self, hy]
              rfl
        exact this j (Nat.le_refl _) hm
      have pq : Per (nxt (farS ks) (farN ks)) q (j - i) := by
        refine ⟨by omega, ?_, fun k h0 hk ek => ?_⟩
        · rw [← itn_at ei, show i + (j - i) = j by omega]
          exact ej
        · have e2 : itn (nxt (farS ks) (farN ks)) (i + k) p = some q := by rw [itn_at ei]; exact ek
          exact hj.dis i (i + k) q (by omega) (by omega) ei e2
      refine ⟨p, q, i, e, hp, nq, ei, by rw [l1]; exact hi, by rw [l1]; exact pq, ?_⟩
      · rw [l1]
        unfold printD
        rw [prF_next nx]
        obtain ⟨q', hq'⟩ := pq.has (sumN (farN ks) - i)
        have e2 : itn (nxt (farS ks) (farN ks)) (sumN (farN ks)) p = some q' := by
          rw [← hq', ← itn_at ei, show i + (sumN (farN ks) - i) = sumN (farN ks) by omega]
        rw [prF_ring _ _ _ e2]
        have pq' := pq.shift hq'
        rw [(ringO_per hs (itn_near hs nq _ _ hq') (j - i)).mpr pq']
    · have none_j : itn (nxt (farS ks) (farN ks)) j p = none := by
        rcases hj.now with ⟨r', e1, e2, e3⟩ | ⟨_, e⟩
        · have n' := itn_near hs hp _ _ e3
          rw [e1, near_spot n'.1, decide_eq_true n'.2] at hoff
          cases hoff
        · exact e
      have last : ∃ r, itn (nxt (farS ks) (farN ks)) (j - 1) p = some r ∧ nxt (farS ks) (farN ks) r = none ∧ x = srcAt (farS ks) (farN ks) r.1 r.2 ∧ 0 < j := by
        have j0 : 0 < j := by
          by_cases h : 0 < j
          · exact h
          · have : j = 0 := by omega
            rw [this] at none_j
            cases none_j
        obtain ⟨r, e1, e2⟩ := hj.prev j0
        refine ⟨r, e1, ?_, e2, j0⟩
        have : itn (nxt (farS ks) (farN ks)) (j - 1 + 1) p = none := by rw [show j - 1 + 1 = j by omega]; exact none_j
        unfold itn at this
        rw [e1] at this
        exact this
      obtain ⟨r, e1, e2, e3, e4⟩ := last
      refine .inr ⟨?_, .inr ⟨p, r, e, hp, itn_near hs hp _ r e1, by rw [l1]; exact e4, by rw [l1]; exact e1, e3⟩⟩
      · unfold printD
        rw [prF_next nx]
        rw [e3]
        exact prF_off (j - 1) _ p r e1 e2 (by omega)
/-- the letter that a print leaves at a pressing, of the source ahead of it -/
theorem print_again {ks : List Ky} {X : Sd Nat} {T : Nat} (h : WideT ks X T) {dp : Nat} (hL : (farN ks).1 ≤ dp) (hd : dp < (farS ks).l.length) {qs : List (Nat × Nat)} {x : Dt} (hx : IsSrc x) (hr : RowX (farS ks) (farN ks) (srcAt (farS ks) (farN ks) 0 dp) qs x) :
    (∀ i a, printD (farS ks) (farN ks) (0, dp) = typedD i a → ∀ t, qs.length ≤ t → t ≤ T → letG ks (prs ks X t) (srcAt (farS ks) (farN ks) 0 dp) = typL ks i a) ∧
    (∀ m k, printD (farS ks) (farN ks) (0, dp) = ringT (some m) → ∀ t, qs.length ≤ t → t + m * k ≤ T → letG ks (prs ks X (t + m * k)) (srcAt (farS ks) (farN ks) 0 dp) = letG ks (prs ks X t) (srcAt (farS ks) (farN ks) 0 dp)) := by
  have no_t : ∀ m i a, ringT (some m) ≠ typedD i a := fun m i a e => by
    have := congrArg ringM e
    rw [ringM_ring, ringM_typed] at this
    cases this
  have off_t : ∀ i a, offD x = typedD i a → x = typedD i a := fun i a e => by
    rcases hx with ⟨sd, dp', h3, rfl⟩ | ⟨i', a', rfl⟩
    · unfold offD at e
      rw [asSpot_spot h3] at e
      cases e
    · unfold offD at e
      rw [asSpot_typed] at e
      exact e
  have off_r : ∀ m, offD x ≠ ringT (some m) := fun m e => by
    rcases hx with ⟨sd, dp', h3, rfl⟩ | ⟨i', a', rfl⟩
    · unfold offD at e
      rw [asSpot_spot h3] at e
      have := congrArg ringM e
      rw [ringM_ring] at this
      cases this
    · unfold offD at e
      rw [asSpot_typed] at e
      have := congrArg ringM e
      rw [ringM_ring, ringM_typed] at this
      cases this
  rcases printY h.gk hL hd hx hr with ⟨p, q, i, e0, hp, hq, ei, hi, per, pd⟩ | ⟨pd, hc⟩
  · refine ⟨fun i' a e => absurd (pd.symm.trans e) (no_t _ _ _), fun m k e t ht hT => ?_⟩
    have em := ringT_inj (pd.symm.trans e)
    rw [em] at per
    rw [e0]
    have h1 := let_orb h hp i q ei (t - i) (by omega)
    have h2 := let_orb h hp i q ei (t - i + m * k) (by omega)
    rw [show t - i + i = t by omega] at h1
    rw [show t - i + m * k + i = t + m * k by omega] at h2
    rw [h1, h2]
    exact let_ring h hq per k (t - i) (by omega)
  · refine ⟨fun i a e t ht hT => ?_, fun m k e => absurd (pd.symm.trans e) (off_r m)⟩
    have ex := off_t i a (pd.symm.trans e)
    rcases hc with ⟨e1, _⟩ | ⟨p, r, e0, hp, nr, h0, er, e1⟩
    · rw [← e1, ex, letG_typed]
    · rw [e0]
      have h1 := let_orb h hp (qs.length - 1) r er (t - (qs.length - 1)) (by omega)
      rw [show t - (qs.length - 1) + (qs.length - 1) = t by omega] at h1
      rw [h1]
      have h2 := let_back h (t := t - qs.length) (by omega) nr
      rw [show t - qs.length + 1 = t - (qs.length - 1) by omega] at h2
      rw [h2, ← e1, ex, letG_typed]
theorem rev_getD {l : List Nat} {j : Nat} (h : j < l.length) : l.reverse.getD (l.length - 1 - j) 0 = l.getD j 0 := by
  rw [List.getD_eq_getElem?_getD, List.getD_eq_getElem?_getD, List.getElem?_reverse (by omega), show l.length - 1 - (l.length - 1 - j) = j by omega]
theorem left_step {ks : List Ky} {X : Sd Nat} {T t : Nat} (h : WideT ks X T) (ht : t < T) {j : Nat} (hj : j + (farN ks).1 < (prs ks X t).l.length) : (prs ks X (t + 1)).l.getD j 0 = (prs ks X t).l.getD j 0 := by
  obtain ⟨w, l1, _⟩ := wide_at h t (by omega)
  obtain ⟨_, l2, _⟩ := wide_at h (t + 1) (by omega)
  obtain ⟨s1, _, _, s4⟩ := wide_step h.gk w
  have hg := h.gain
  rw [prs_succ] at l2 ⊢
  generalize prs ks X t = Y at hj w l1 s1 s4 l2 ⊢
  generalize hZ : steps id ks Y = Z at s1 s4 l2 ⊢
  have e := s4 0 (by decide) (Z.l.length - 1 - j) (by show _ < Z.l.reverse.length; rw [List.length_reverse]; omega) (fun h => by cases h)
  have e1 : (viewL Z 0).getD (Z.l.length - 1 - j) 0 = Z.l.getD j 0 := rev_getD (by omega)
  rw [e1] at e
  rw [e]
  have hno : (rowS (farS ks) 0)[Z.l.length - 1 - j]? = none := List.getElem?_eq_none (by show (farS ks).l.length ≤ _; omega)
  unfold srcAt
  rw [hno]
  show letG ks Y (spotD 0 (Z.l.length - 1 - j - (farS ks).l.length + (farN ks).1)) = _
  rw [letG_spot (by decide), show Z.l.length - 1 - j - (farS ks).l.length + (farN ks).1 = Y.l.length - 1 - j by omega]
  exact rev_getD (by omega)
theorem left_keep {ks : List Ky} {X : Sd Nat} {T t : Nat} (h : WideT ks X T) {j : Nat} (hj : j + (farN ks).1 < (prs ks X t).l.length) : ∀ k, t + k ≤ T → (prs ks X (t + k)).l.getD j 0 = (prs ks X t).l.getD j 0
  | 0, _ => rfl
  | k + 1, hk => by
    obtain ⟨_, l1, _⟩ := wide_at h t (by omega)
    obtain ⟨_, l2, _⟩ := wide_at h (t + k) (by omega)
    have := Nat.mul_le_mul_right (gainL ks) (show t ≤ t + k by omega)
    rw [← left_keep h hj k (by omega)]
    exact left_step (t := t + k) h (by omega) (by omega)
theorem row_let {ks : List Ky} {X : Sd Nat} {T t a : Nat} (h : WideT ks X T) (ht : t + 1 ≤ T) (ha : a < gainL ks) : (prs ks X T).l.getD (X.l.length + t * gainL ks - (farN ks).1 + a) 0 = letG ks (prs ks X t) (srcAt (farS ks) (farN ks) 0 ((farS ks).l.length - 1 - a)) := by
  obtain ⟨w, l1, _⟩ := wide_at h t (by omega)
  obtain ⟨w2, l2, _⟩ := wide_at h (t + 1) ht
  have hg := h.gain
  have hgl : gainL ks + (farN ks).1 = (farS ks).l.length := by unfold gainL; omega
  have wl := w.l
  have m1 : (t + 1) * gainL ks = t * gainL ks + gainL ks := Nat.succ_mul _ _
  have hj : X.l.length + t * gainL ks - (farN ks).1 + a + (farN ks).1 < (prs ks X (t + 1)).l.length := by omega
  have e := left_keep h hj (T - (t + 1)) (by omega)
  rw [show t + 1 + (T - (t + 1)) = T by omega] at e
  rw [e]
  obtain ⟨s1, _, _, s4⟩ := wide_step h.gk w
  rw [prs_succ] at l2 hj ⊢
  generalize prs ks X t = Y at wl l1 s1 s4 l2 hj ⊢
  generalize hZ : steps id ks Y = Z at s1 s4 l2 hj ⊢
  generalize hjj : X.l.length + t * gainL ks - (farN ks).1 + a = j at hj ⊢
  have e2 := s4 0 (by decide) (Z.l.length - 1 - j) (by show _ < Z.l.reverse.length; rw [List.length_reverse]; omega) (fun h => by cases h)
  have e1 : (viewL Z 0).getD (Z.l.length - 1 - j) 0 = Z.l.getD j 0 := rev_getD (by omega)
  rw [e1] at e2
  rw [e2, show Z.l.length - 1 - j = (farS ks).l.length - 1 - a by omega]

/-! ## pressing, over cells -/
def shD (s : Sh) : Dt := .tup [.str s.w, .int (s.n : Nat), .str s.k]
theorem shD_at {H : Hp} {v : V} {s : Sh} (h : At K H v (shD s)) : SheetAt K H v s := by
  unfold shD at h
  unfold At at h
  obtain ⟨a, xs, rfl, h1, h2⟩ := h
  obtain ⟨u1, u2, u3, rfl, a1, a2, a3⟩ := ats3 h2
  unfold At at a1 a2 a3
  obtain ⟨rfl, _⟩ := a1
  obtain ⟨rfl, _⟩ := a3
  subst a2
  exact ⟨a, rfl, .inr h1⟩
theorem okD_check_sheet (T : Txt K mg w) : FnOk P w K mg base CX0 4 T.f_check_sheet.f T.f_check_sheet.fd ["thing"] (lft K (pureR (fun ds => ∃ s, ds = [shD s] ∧ GoodS s) fun _ => .non)) :=
  fn_adapt (ok_check_sheet T) (fun _ _ => rfl) fun ds vs H Q E hp ha q => by
    obtain ⟨s, rfl, gs⟩ := hp
    obtain ⟨v, rfl, h1⟩ := ats1 ha
    exact ⟨v, s, rfl, shD_at h1, gs, fun H' e => q H' _ e at_nonL⟩
def lf42 (c : Nat) : Dt := .str [c]
def sdOf (s : Sh) : Sd Nat := ⟨s.w.take s.n, (s.w.drop s.n).reverse, s.k⟩
def shOf (d : Sd Nat) : Sh := ⟨d.l ++ d.r.reverse, d.l.length, d.c⟩
def pressed (ks : List Ky) (t : Nat) (s : Sh) : Sh := shOf (presses id ks t (sdOf s))
theorem kstep_lf (k : Ky) (X : Sd Nat) : kstep k (lettersD k) (X.l.map lf42) (X.r.map lf42) (X.c.map lf42) = ((step id k X).l.map lf42, (step id k X).r.map lf42, (step id k X).c.map lf42) := by
  have e := step_map (fun n => n) lf42 k X
  have e2 : step (fun n => lf42 ((fun n => n) n)) k (X.map lf42) = ⟨(kstep k (lettersD k) (X.l.map lf42) (X.r.map lf42) (X.c.map lf42)).1, (kstep k (lettersD k) (X.l.map lf42) (X.r.map lf42) (X.c.map lf42)).2.1, (kstep k (lettersD k) (X.l.map lf42) (X.r.map lf42) (X.c.map lf42)).2.2⟩ := by
    cases k <;> rfl
  have e3 := e2.symm.trans e
  have e4 : (step id k X).map lf42 = (step (fun n => n) k X).map lf42 := rfl
  rw [← e4] at e3
  generalize kstep k (lettersD k) (X.l.map lf42) (X.r.map lf42) (X.c.map lf42) = z at e3
  obtain ⟨a, b, c⟩ := z
  have h1 := congrArg Sd.l e3
  have h2 := congrArg Sd.r e3
  have h3 := congrArg Sd.c e3
  dsimp only at h1 h2 h3
  rw [h1, h2, h3]
  rfl
theorem selT_lf (A : List Nat) : selT ((A.map lf42).map W.d) = some (A.map fun c => [c]) := by
  have := selT_map (A.map fun c => [c])
  rw [List.map_map] at this
  rw [List.map_map]
  exact this
theorem one_sum (A : List Nat) : (((A.map fun c => [c]).map (·.length)).sum) = A.length ∧ (A.map fun c => [c]).flatten = A := by
  induction A with
  | nil => exact ⟨rfl, rfl⟩
  | cons c A ih =>
    refine ⟨?_, ?_⟩
    · rw [List.map_cons, List.map_cons, List.sum_cons, ih.1]
      show 1 + A.length = A.length + 1
      omega
    · rw [List.map_cons, List.flatten_cons, ih.2]
      rfl
def spPrs : SpD := fun ws C Q _ => ∃ (s : Sh) (ks : List Ky) (t : Nat), ws = [.d (shD s), .d (dH ks), .d (.int t)] ∧ GoodS s ∧ GoodH ks ∧ t ≤ 300 ∧ s.w.length + 3600 * t ≤ 900000 ∧ Q (.d (shD (pressed ks t s))) C
theorem ok_press (T : Txt K mg w) : FnOk P w K mg base CX0 7 T.f_press.f T.f_press.fd ["sheet", "hand", "times"] (lft K spPrs) := by
  refine okD T.f_press.F sc_press (fun ws C Q X h => ?_) (fun cv A out s H E hr => ⟨_, (pss_cons (ps_expr (pe_call (okD_check_sheet T) (hr.mono (by first | decide | omega)) (by rfl) T.f_check_sheet.g T.f_check_sheet.F.kp T.f_check_sheet.b .nil pass0 (pa_cons (pv 0) pa_nil)))
      (pss_cons (ps_expr (pe_call (okD_check_hand T) (hr.mono (by first | decide | omega)) (by rfl) T.f_check_hand.g T.f_check_hand.F.kp T.f_check_hand.b .nil pass0 (pa_cons (pv 1) pa_nil)))
      (pss_cons (ps_if (pt_not (pt_val (pe_call (okD_is_within T) (hr.mono (by first | decide | omega)) (by rfl) T.f_is_within.g T.f_is_within.F.kp T.f_is_within.b .nil pass0 (pa_cons (pv 2) (pa_cons pe_int (pa_cons (pe_c_MOST_TIMES T) pa_nil)))))) (pss_one ps_never) pss_nil)
      (pss_cons (ps_asg (pv 0) (pg_seqK (n := 3) K rfl (pgs_cons (pg_name (i := 3) sc_press.nd rfl (.inl rfl)) (pgs_cons (pg_name (i := 4) sc_press.nd rfl (.inl rfl)) (pgs_cons (pg_name (i := 5) sc_press.nd rfl (.inl rfl)) pgs_nil)))))
      (pss_cons (ps_set (i := 6) sc_press.nd rfl (.inl rfl) (pe_callTy (q_listT rfl) (by rfl) T.b_list (by decide +kernel) (pa_cons (pe_slice sl_str (pv 3) po_none (po_some (pv 4))) pa_nil)))
      (pss_cons (ps_set (i := 7) sc_press.nd rfl (.inl rfl) (pe_callTy (q_listT rfl) (by rfl) T.b_list (by decide +kernel) (pa_cons (pe_slice sl_str (pv 3) (po_some (pv 4)) po_none) pa_nil)))
      (pss_cons (ps_expr (pe_bm0K K PySem.F.plainAttrs_list PySem.F.slot_list_reverse PySem.F.type_list_reverse mt_reverse (pv 7)))
      (pss_cons (ps_set (i := 8) sc_press.nd rfl (.inl rfl) (pe_callTy (q_listT rfl) (by rfl) T.b_list (by decide +kernel) (pa_cons (pv 5) pa_nil)))
      (pss_cons (ps_for PassesOwn.never rfl (pi_range1 (by rfl) T.b_range (pa_cons (pv 2) pa_nil)) (pg_name (i := 9) sc_press.nd rfl (.inl rfl))
        (pss_one (ps_for PassesOwn.never rfl (pi_row K (pv 1)) (pg_name (i := 10) sc_press.nd rfl (.inl rfl))
        (pss_one (ps_set (i := 8) sc_press.nd rfl (.inl rfl) (pe_call (okL_do_key T) (hr.mono (by first | decide | omega)) (by rfl) T.f_do_key.g T.f_do_key.F.kp T.f_do_key.b .nil pass0 (pa_cons (pv 10) (pa_cons (pv 6) (pa_cons (pv 7) (pa_cons (pv 8) pa_nil))))))))))
      (pss_cons (ps_expr (pe_bm0K K PySem.F.plainAttrs_list PySem.F.slot_list_reverse PySem.F.type_list_reverse mt_reverse (pv 7)))
      (pss_one (ps_ret (pe_tup (pa_cons (pe_m1 PySem.F.slot_str_join PySem.F.type_str_join (q_join K) pe_strL (pe_op (q_addA K) (pv 6) (pv 7))) (pa_cons (pe_callB (call_lenK K) (by rfl) T.b_len (by decide +kernel) (pa_cons (pv 6) pa_nil)) (pa_cons (pe_m1 PySem.F.slot_str_join PySem.F.type_str_join (q_join K) pe_strL (pv 8)) pa_nil)))))))))))))))), _, inferInstance, fun ws C Q X h => ?_⟩)
  · obtain ⟨s, ks, t, rfl, _⟩ := h
    rfl
  obtain ⟨s, ks, t, rfl, gs, gk, ht, hz, q⟩ := h
  walk_at "dw"
  refine ⟨[shD s], rdss1 rds_d, ⟨s, rfl, gs⟩, ?_⟩
  refine ⟨[dH ks], rdss1 rds_d, ⟨_, ks, rfl, rfl, gk⟩, ?_⟩
  refine ⟨[.int (t : Nat), .int 0, .int 300], by unfold rdss; exact ⟨_, _, rfl, rds_d, by unfold rdss; exact ⟨_, _, rfl, rds_d, rdss1 rds_d⟩⟩, ⟨_, _, _, rfl⟩, ?_⟩
  have hw : isWithin (.int (t : Nat)) 0 300 = true := by
    unfold isWithin
    simp only [Bool.and_eq_true, decide_eq_true_eq]
    omega
  dsimp only
  rw [hw]
  refine iteF ?_
  rw [show rowW C (W.d (shD s)) = some [.d (.str s.w), .d (.int (s.n : Nat)), .d (.str s.k)] from rfl]
  dsimp only
  refine ⟨rfl, rfl, ?_⟩
  walk_at "dw"
  have hn := gs.n
  rw [HT.sIx_nat, HT.sIx_none, HT.sIx_none, HT.sIx_nat, List.drop_zero, Nat.sub_zero, Nat.min_eq_left hn]
  have mp : ∀ l : List Nat, l.map (fun c => W.d (Dt.str [c])) = (l.map lf42).map W.d := fun l => by rw [List.map_map]; rfl
  have et : (s.w.drop s.n).take (s.w.length - s.n) = s.w.drop s.n := List.take_of_length_le (by rw [List.length_drop]; exact Nat.le_refl _)
  rw [et, mp, mp, mp]
  refine newL_o ?_
  refine newL_o ?_
  rw [lstW_2]
  have hj : (C ++ [Cell.lst (((s.w.take s.n).map lf42).map W.d)] ++ [Cell.lst (((s.w.drop s.n).map lf42).map W.d)])[(C ++ [Cell.lst (((s.w.take s.n).map lf42).map W.d)]).length]? = some (Cell.lst (((s.w.drop s.n).map lf42).map W.d)) := last_at
  have hi : (C ++ [Cell.lst (((s.w.take s.n).map lf42).map W.d)] ++ [Cell.lst (((s.w.drop s.n).map lf42).map W.d)])[C.length]? = some (Cell.lst (((s.w.take s.n).map lf42).map W.d)) := app_at last_at
  have ext0 : ∀ (x : Nat) y, C[x]? = some y → (C ++ [Cell.lst (((s.w.take s.n).map lf42).map W.d)] ++ [Cell.lst (((s.w.drop s.n).map lf42).map W.d)])[x]? = some y := fun x y hx => app_at (app_at hx)
  have jl : (C ++ [Cell.lst (((s.w.take s.n).map lf42).map W.d)]).length = C.length + 1 := by rw [List.length_append]; rfl
  rw [jl] at hj ⊢
  have l0 : (C ++ [Cell.lst (((s.w.take s.n).map lf42).map W.d)] ++ [Cell.lst (((s.w.drop s.n).map lf42).map W.d)]).length = C.length + 2 := by rw [List.length_append, jl]; rfl
  generalize (C ++ [Cell.lst (((s.w.take s.n).map lf42).map W.d)] ++ [Cell.lst (((s.w.drop s.n).map lf42).map W.d)]) = C1 at hj hi ext0 l0 ⊢
  refine ⟨by rw [hj]; rfl, ?_⟩
  dsimp only
  rw [hj]
  dsimp only
  refine newL_o ?_
  have er : (((s.w.drop s.n).map lf42).map W.d).reverse = ((sdOf s).r.map lf42).map W.d := by
    show _ = (((s.w.drop s.n).reverse).map lf42).map W.d
    rw [List.map_reverse, List.map_reverse]
  rw [er, List.length_set]
  refine ⟨⟨by omega, by omega⟩, ?_⟩
  rw [Int.toNat_natCast]
  have wk : ∀ k ∈ ks, k.wt ≤ 60 := fun k hk => Nat.le_trans (hwt_mem hk) gk.wt
  have szX := presses_size id ks wk gk.few
  have sz0 : (sdOf s).size = s.w.length ∧ (sdOf s).c.length ≤ 60 := by
    refine ⟨?_, gs.kl⟩
    show (s.w.take s.n).length + ((s.w.drop s.n).reverse).length = _
    rw [List.length_take, List.length_reverse, List.length_drop]
    omega
  refine DFor.range (fun m ρ C' => ∃ (h : Nat) (y9 y10 : Option W), ρ = [some (.d (shD s)), some (.d (dH ks)), some (.d (.int (t : Nat))), some (.d (.str s.w)), some (.d (.int (s.n : Nat))), some (.d (.str s.k)), some (.o C.length), some (.o (C.length + 1)), some (.o h), y9, y10] ∧ (∀ (x : Nat) y, C[x]? = some y → C'[x]? = some y) ∧ C'[C.length]? = some (.lst (((presses id ks m (sdOf s)).l.map lf42).map W.d)) ∧ C'[C.length + 1]? = some (.lst (((presses id ks m (sdOf s)).r.map lf42).map W.d)) ∧ C'[h]? = some (.lst (((presses id ks m (sdOf s)).c.map lf42).map W.d)) ∧ h ≠ C.length ∧ h ≠ C.length + 1) ⟨C1.length, _, _, rfl, fun x y hx => ?_, ?_, ?_, ?_, by rw [l0]; omega, by rw [l0]; omega⟩ ?_ ?_
  · have := lt_at hx
    exact app_at (by rw [set_off (by omega)]; exact ext0 x y hx)
  · exact app_at (by rw [set_off (by omega)]; exact hi)
  · exact app_at (by rw [set_at hj]; rfl)
  · have : (C1.set (C.length + 1) (Cell.lst (((sdOf s).r.map lf42).map W.d))).length = C1.length := List.length_set ..
    have e := last_at (C := C1.set (C.length + 1) (Cell.lst (((sdOf s).r.map lf42).map W.d))) (c := Cell.lst ((s.k.map lf42).map W.d))
    rw [this] at e
    exact e
  · rintro ρ C' ⟨h, y9, y10, rfl, kp, f1, f2, f3, h1, h2⟩
    have hq : pressed ks t s = shOf (presses id ks t (sdOf s)) := rfl
    obtain ⟨z1, z2⟩ := szX t (sdOf s) sz0.2
    rw [hq] at q
    generalize presses id ks t (sdOf s) = X at q f1 f2 f3 z1 z2
    walk_at "dw"
    have ce : cd (Str.ofString "") = [] := rfl
    have lC := lt_at f1
    refine ⟨by rw [f2]; rfl, ?_⟩
    rw [f2]
    dsimp only
    have e2 : (((X.r.map lf42).map W.d).reverse) = ((X.r.reverse.map lf42).map W.d) := by rw [List.map_reverse, List.map_reverse]
    rw [e2]
    have g1 : (C'.set (C.length + 1) (Cell.lst ((X.r.reverse.map lf42).map W.d)))[C.length]? = some (.lst ((X.l.map lf42).map W.d)) := by rw [set_off (by omega)]; exact f1
    have g2 : (C'.set (C.length + 1) (Cell.lst ((X.r.reverse.map lf42).map W.d)))[C.length + 1]? = some (.lst ((X.r.reverse.map lf42).map W.d)) := set_at f2
    have g3 : (C'.set (C.length + 1) (Cell.lst ((X.r.reverse.map lf42).map W.d)))[h]? = some (.lst ((X.c.map lf42).map W.d)) := by rw [set_off (by omega)]; exact f3
    have kp2 : ∀ (x : Nat) y, C[x]? = some y → (C'.set (C.length + 1) (Cell.lst ((X.r.reverse.map lf42).map W.d)))[x]? = some y := fun x y hx => by
      have := lt_at hx
      rw [set_off (by omega)]
      exact kp x y hx
    generalize C'.set (C.length + 1) (Cell.lst ((X.r.reverse.map lf42).map W.d)) = C2 at g1 g2 g3 kp2 ⊢
    rw [g1, g2]
    dsimp only
    rw [sz0.1] at z1
    have z1 : X.l.length + X.r.length ≤ s.w.length + 3600 * t := z1
    refine ⟨by rw [List.length_map, List.length_map, List.length_map, List.length_map, List.length_reverse]; omega, ?_⟩
    have e3 : (X.l.map lf42).map W.d ++ (X.r.reverse.map lf42).map W.d = ((X.l ++ X.r.reverse).map lf42).map W.d := by rw [List.map_append, List.map_append]
    rw [e3]
    refine newL_d ?_
    rw [show rowW C2 (W.d (.lst ((X.l ++ X.r.reverse).map lf42))) = some (((X.l ++ X.r.reverse).map lf42).map W.d) from rfl]
    dsimp only
    rw [selT_lf]
    dsimp only
    obtain ⟨o1, o2⟩ := one_sum (X.l ++ X.r.reverse)
    obtain ⟨o3, o4⟩ := one_sum X.c
    rw [ce, joinL_nil, o1, o2, List.length_nil, Nat.mul_zero, g1, g3]
    dsimp only
    rw [selT_lf]
    dsimp only
    rw [joinL_nil, o3, o4, Nat.mul_zero]
    have le : (X.l ++ X.r.reverse).length = X.l.length + X.r.length := by rw [List.length_append, List.length_reverse]
    refine ⟨by omega, by omega, by omega, by omega, ?_⟩
    rw [List.length_map, List.length_map]
    obtain ⟨ex, rfl⟩ := ext_split kp2
    exact ret.thing q
  · rintro m ρ C' hm ⟨h, y9, y10, rfl, kp, f1, f2, f3, h1, h2⟩
    obtain ⟨z1, z2⟩ := szX m (sdOf s) sz0.2
    rw [presses_succ]
    generalize presses id ks m (sdOf s) = X at f1 f2 f3 z1 z2 ⊢
    walk_at "dw"
    rw [rowIt_row (d := dH ks) rfl]
    dsimp only
    have hsd : ∀ a, (ks.take a).foldl (fun X k => step id k X) X = steps id (ks.take a) X := fun a => rfl
    refine DFor.dlist (fun a ρ C2 => ∃ (h : Nat) (y10 : Option W), ρ = [some (.d (shD s)), some (.d (dH ks)), some (.d (.int (t : Nat))), some (.d (.str s.w)), some (.d (.int (s.n : Nat))), some (.d (.str s.k)), some (.o C.length), some (.o (C.length + 1)), some (.o h), some (.d (.int (0 + (m : Int)))), y10] ∧ (∀ (x : Nat) y, C[x]? = some y → C2[x]? = some y) ∧ C2[C.length]? = some (.lst (((steps id (ks.take a) X).l.map lf42).map W.d)) ∧ C2[C.length + 1]? = some (.lst (((steps id (ks.take a) X).r.map lf42).map W.d)) ∧ C2[h]? = some (.lst (((steps id (ks.take a) X).c.map lf42).map W.d)) ∧ h ≠ C.length ∧ h ≠ C.length + 1) ⟨h, _, rfl, kp, f1, f2, f3, h1, h2⟩ ?_ ?_
    · rintro ρ C2 ⟨h, y10, rfl, kp, f1, f2, f3, h1, h2⟩
      rw [show (dH ks).items.length = ks.length from List.length_map .., List.take_length] at f1 f2 f3
      exact ⟨h, _, _, rfl, kp, f1, f2, f3, h1, h2⟩
    · rintro a x ρ C2 hx ⟨h, y10, rfl, kp, f1, f2, f3, h1, h2⟩
      have hx : (ks.map kyT)[a]? = some x := hx
      rw [List.getElem?_map] at hx
      obtain ⟨k, hk, rfl⟩ := Option.map_eq_some_iff.mp hx
      have next : steps id (ks.take (a + 1)) X = step id k (steps id (ks.take a) X) := by
        rw [List.take_add_one, hk, Option.toList_some, steps_app]
        rfl
      have hsz := steps_size id (ks.take a) X (fun z hz => wk z (List.mem_of_mem_take hz)) z2
      have hlt := List.length_take_le a ks
      have hlt2 := List.length_take_le' a ks
      rw [next]
      have kz := kstep_lf k (steps id (ks.take a) X)
      rw [sz0.1] at z1
      have fw := gk.few
      generalize steps id (ks.take a) X = Y at f1 f2 f3 kz hsz ⊢
      have hy : Y.l.length + Y.r.length ≤ s.w.length + 3600 * m + 3600 := by
        have := hsz.1
        have e1 : Y.size = Y.l.length + Y.r.length := rfl
        omega
      walk_at "dw"
      have lw : (lettersD k).length ≤ 60 := by
        have := wk k (List.mem_of_getElem? hk)
        cases k with
        | write w =>
          unfold lettersD
          rw [List.length_map]
          exact this
        | _ => exact Nat.zero_le _
      refine ⟨kyT k, k, lettersD k, Y.l.map lf42, Y.r.map lf42, Y.c.map lf42, C.length, C.length + 1, h, rfl, ⟨rfl, rfl, rfl⟩, gk.ok k (List.mem_of_getElem? hk), f1, f2, f3, by omega, h1, h2, by rw [List.length_map, List.length_map, List.length_map]; have := hsz.2; omega, fun h' C3 kp3 g1 g2 g3 n1 n2 _ _ => ?_⟩
      rw [kz] at g1 g2 g3
      exact ⟨h', _, rfl, fun x y hx => kp3 x y (by have := lt_at hx; omega) (by have := lt_at hx; omega) (kp x y hx), g1, g2, g3, n1, n2⟩

/-! ## any letters -/
def spAny : SpD := fun ws C Q _ => ∃ (b : Nat) (k : Nat), ws = [.o b, .d (.int k)] ∧ Sprg C b ∧ k ≤ 1000 ∧ ∀ (z : List Nat) C', z.length = k → Plain z → STo b C C' → Q (.d (.str z)) C'
theorem ok__law_any (T : Txt K mg w) : FnOk P w K mg base CX0 2 T.f__law_any.f T.f__law_any.fd ["spring", "many"] (lft K spAny) := by
  refine okD T.f__law_any.F sc__law_any (fun ws C Q X h => ?_) (fun cv A out s H E hr => ⟨_, (pss_cons (ps_set (i := 2) sc__law_any.nd rfl (.inr rfl) pe_strL)
      (pss_one (ps_ret (pe_m1 PySem.F.slot_str_join PySem.F.type_str_join (q_join K) pe_strL (pe_lcK [3] (pe_lc (own := [("k", 3)]) rfl sc__law_any.nd (pi_range1 (by rfl) T.b_range (pa_cons (pv 1) pa_nil)) (blkOk_by (own := [("k", 3)]) (N := N__law_any) (sc := defScope s__law_any) (by decide +kernel)) (fun _ _ _ _ _ => (pg_name (i := 3) sc__law_any.nd rfl (.inl rfl))) (fun _ _ _ _ _ => pts_nil) (fun _ _ _ _ _ => (pe_ix (ix_seqK K) (pv 2) (pe_call (ok__law_draw T) (hr.mono (by first | decide | omega)) (by rfl) T.f__law_draw.g T.f__law_draw.F.kp T.f__law_draw.b .nil pass0 (pa_cons (pv 0) (pa_cons pe_int pa_nil))) (fun _ _ => rfl))))))))), _, inferInstance, fun ws C Q X h => ?_⟩)
  · obtain ⟨b, k, rfl, _⟩ := h
    rfl
  obtain ⟨b, k, rfl, hb, hk, q⟩ := h
  have cb := hb.lt
  walk_at "dw"
  have l26 : (cd "abcdefghijklmnopqrstuvwxyz").length = 26 := by decide +kernel
  have zp : Plain (cd "abcdefghijklmnopqrstuvwxyz") := by unfold Plain; decide +kernel
  generalize cd "abcdefghijklmnopqrstuvwxyz" = z26 at l26 zp
  try rw [Int.toNat_natCast]
  refine ⟨⟨by omega, by omega⟩, ?_⟩
  try rw [Int.toNat_natCast]
  refine DLc.gen k (fun i => .d (.int (0 + i))) (fun i ds C' => STo b C C' ∧ ∃ zs : List (List Nat), ds = zs.map Dt.str ∧ zs.length = i ∧ ∀ z ∈ zs, z.length = 1 ∧ Plain z) (by omega) ⟨(STo.refl hb).app _, [], rfl, rfl, (fun z hz => nomatch hz)⟩ (fun i ds C' hi _ => itRng_if i C') ?_ ?_
  · rintro i ds C3 hi ⟨b3, zs, rfl, hzl, hzp⟩ hc R S hR hS
    walk_at "dw"
    refine ⟨b, 26, rfl, b3.spr, by decide, by decide, fun v C4 hv b4 => ?_⟩
    obtain ⟨c, hcz, hcm⟩ := atI_lt (xs := z26) (show v < z26.length by rw [l26]; omega)
    walk_at "dw"
    rw [hcz]
    have hc4 := b4.at (by omega) hc
    refine hR _ C4 hc4 ⟨(b3.trans b4).mut (Nat.le_refl _) cb _, zs ++ [[c]], by rw [List.map_append]; rfl, by rw [List.length_append, hzl]; rfl, fun y hy => ?_⟩
    rcases List.mem_append.mp hy with hy | hy
    · exact hzp y hy
    · rw [List.mem_singleton.mp hy]
      exact ⟨rfl, plain_oneS zp hcm⟩
  · rintro ds C3 ⟨b3, zs, rfl, hzl, hzp⟩ hc _
    refine ret.sprL cb b3 (Nat.le_refl _) hc fun C4 b4 => ?_
    have st : selT ((zs.map Dt.str).map W.d) = some zs := by rw [List.map_map]; exact selT_map zs
    have fl : zs.flatten.length = k := by
      have : ∀ ys : List (List Nat), (∀ z ∈ ys, z.length = 1 ∧ Plain z) → ys.flatten.length = ys.length := fun ys => by
        induction ys with
        | nil => intro _; rfl
        | cons y ys ih => intro h; rw [List.flatten_cons, List.length_append, (h y (List.mem_cons_self ..)).1, ih fun z hz => h z (List.mem_cons_of_mem _ hz), List.length_cons]; omega
      rw [this zs hzp, hzl]
    have sm : (zs.map (·.length)).sum = k := by rw [← List.length_flatten]; exact fl
    walk_at "dw"
    rw [st]
    show _ ∧ _ ∧ _
    rw [show cd (Str.ofString "") = [] from rfl, joinL_nil, sm, List.length_nil, Nat.mul_zero, fl]
    exact ⟨by omega, by omega, ret.spr hb.lt b4 fun C5 b5 => q _ C5 fl (plain_flatS fun z hz => (hzp z hz).2) b5⟩

/-! ## what is left for good, pressing by pressing -/
theorem sd_sh (d : Sd Nat) : sdOf (shOf d) = d := by
  obtain ⟨l, r, c⟩ := d
  show Sd.mk ((l ++ r.reverse).take l.length) ((l ++ r.reverse).drop l.length).reverse c = _
  rw [List.take_left, List.drop_left, List.reverse_reverse]
theorem plain_sub {a b : List Nat} (h : Plain a) (hs : ∀ c ∈ b, c ∈ a) : Plain b := by
  unfold Plain at h ⊢
  rw [List.all_eq_true] at h ⊢
  exact fun c hc => h c (hs c hc)
/-- all letters of a sheet are plain -/
def PlainS (X : Sd Nat) : Prop := Plain X.l ∧ Plain X.r ∧ Plain X.c
theorem plain_app {a b : List Nat} (h : Plain a) (k : Plain b) : Plain (a ++ b) := by
  unfold Plain at h k ⊢
  rw [List.all_append, h, k]
  rfl
theorem plain_near {a : List Nat} {n : Nat} (h : Plain a) : Plain (near a n) ∧ Plain (rest a n) := ⟨plain_sub h fun c hc => List.mem_of_mem_drop (List.mem_reverse.mp hc), plain_sub h fun c hc => List.mem_of_mem_take hc⟩
theorem plain_step {k : Ky} {X : Sd Nat} (hk : k.ok) (h : PlainS X) : PlainS (step id k X) := by
  obtain ⟨h1, h2, h3⟩ := h
  cases k with
  | write w => exact ⟨plain_app h1 (by rw [List.map_id]; exact hk.2.2), h2, h3⟩
  | paste => exact ⟨plain_app h1 h3, h2, h3⟩
  | left n => exact ⟨(plain_near h1).2, plain_app h2 (plain_near h1).1, h3⟩
  | right n => exact ⟨plain_app h1 (plain_near h2).1, (plain_near h2).2, h3⟩
  | rub n => exact ⟨(plain_near h1).2, h2, h3⟩
  | strike n => exact ⟨h1, (plain_near h2).2, h3⟩
  | copy n => exact ⟨h1, h2, (plain_near h2).1⟩
  | cut n => exact ⟨h1, (plain_near h2).2, (plain_near h2).1⟩
theorem plain_steps : ∀ (ks : List Ky) {X : Sd Nat}, (∀ k ∈ ks, k.ok) → PlainS X → PlainS (steps id ks X)
  | [], _, _, h => h
  | k :: ks, X, hk, h => by
    rw [steps_cons]
    exact plain_steps ks (fun z hz => hk z (List.mem_cons_of_mem _ hz)) (plain_step (hk k (List.mem_cons_self ..)) h)
theorem plain_prs {ks : List Ky} (gk : GoodH ks) {X : Sd Nat} (h : PlainS X) : ∀ t, PlainS (presses id ks t X)
  | 0 => h
  | t + 1 => by
    rw [presses_succ]
    exact plain_steps ks gk.ok (plain_prs gk h t)
theorem good_sh {X : Sd Nat} (h : PlainS X) (hc : X.c.length ≤ 60) (hl : X.l.length + X.r.length ≤ 1000000) : GoodS (shOf X) := ⟨plain_app h.1 (plain_sub h.2.1 fun c hc => List.mem_reverse.mp hc), by show X.l.length ≤ (X.l ++ X.r.reverse).length; rw [List.length_append]; omega, h.2.2, hc, by show (X.l ++ X.r.reverse).length ≤ _; rw [List.length_append, List.length_reverse]; exact hl⟩
/-- a side loses at most what a pressing weighs -/
theorem lens_lose (b : Bool) : ∀ (ks : List Ky) (s : Ln), lside b s ≤ lside b (ks.foldl (fun s k => lstep k s) s) + hwt ks
  | [], s => Nat.le_add_right _ _
  | k :: ks, s => by
    rw [List.foldl_cons, hwt_cons]
    have h1 := lside_step b k s
    have h2 := lens_lose b ks (lstep k s)
    omega
theorem steps_ln : ∀ (ks : List Ky) (X : Sd Nat), (steps id ks X).ln = ks.foldl (fun s k => lstep k s) X.ln
  | [], _ => rfl
  | k :: ks, X => by rw [steps_cons, List.foldl_cons, steps_ln ks, step_ln]
/-- behind one pressing of a wide sheet with no clip -/
theorem first_wide {ks : List Ky} (gk : GoodH ks) {X : Sd Nat} (hl : 130 ≤ X.l.length) (hr : 200 ≤ X.r.length) (hc : X.c = []) :
    70 ≤ (steps id ks X).l.length ∧ X.r.length ≤ (steps id ks X).r.length + 60 ∧ (steps id ks X).c.length = heldK ks := by
  have e := steps_ln ks X
  have w := gk.wt
  have h1 := lens_lose true ks X.ln
  have h2 := lens_lose false ks X.ln
  have h3 := fits_held ks X.ln (fits_big false ks _ (by show hwt ks ≤ X.r.length; omega))
  rw [← e] at h1 h2 h3
  refine ⟨?_, ?_, ?_⟩
  · have h1 : X.l.length ≤ (steps id ks X).l.length + hwt ks := h1
    omega
  · have h2 : X.r.length ≤ (steps id ks X).r.length + hwt ks := h2
    omega
  · have h3 : (steps id ks X).c.length = ks.foldl heldF X.c.length := h3
    rw [h3, hc]
    rfl
def WaysOk (ks : List Ky) (ways : Nat) : Prop := ∀ dp, (farN ks).1 ≤ dp → dp < (farS ks).l.length → ∃ qs x, IsSrc x ∧ RowX (farS ks) (farN ks) (srcAt (farS ks) (farN ks) 0 dp) qs x ∧ qs.length < ways
def rowT (w : List Nat) (b0 P L t : Nat) : List Nat := (w.drop (b0 + t * P - L)).take P
theorem dvd_lcmF : ∀ (rs : List Nat) (a r : Nat), (r ∣ a ∨ r ∈ rs) → r ∣ rs.foldl Nat.lcm a
  | [], a, r, h => h.elim id fun h => by cases h
  | x :: rs, a, r, h => by
    rw [List.foldl_cons]
    refine dvd_lcmF rs _ r ?_
    rcases h with h | h
    · exact .inl (Nat.dvd_trans h (Nat.dvd_lcm_left a x))
    · rcases List.mem_cons.mp h with rfl | h
      · exact .inl (Nat.dvd_lcm_right a r)
      · exact .inr h
theorem printsK_at {ks : List Ky} {a : Nat} (ha : a < gainL ks) : (printsK ks)[a]? = some (printD (farS ks) (farN ks) (0, (farS ks).l.length - 1 - a)) := by
  unfold printsK prL
  rw [List.getElem?_map, List.getElem?_range (show a < (farS ks).l.length - (farN ks).1 from ha)]
  rfl
theorem printsK_len (ks : List Ky) : (printsK ks).length = gainL ks := by
  unfold printsK prL gainL
  rw [List.length_map, List.length_range]
theorem typed_word {ks : List Ky} {sd dp i a : Nat} (h : sd < 3) (e : srcAt (farS ks) (farN ks) sd dp = typedD i a) : ∃ w, ks[i]? = some (.write w) ∧ a < w.length := by
  have h0 : AllR (fun x => ∀ i a, x = typedD i a → ∃ w, ks[i]? = some (.write w) ∧ a < w.length) (sid0 (nr true ks) (nr false ks) (heldK ks)) := by
    have row : ∀ sd n, sd < 3 → ∀ y ∈ rowD (sideS sd) n, ∀ i a, y = typedD i a → ∃ w, ks[i]? = some (.write w) ∧ a < w.length := fun sd n h3 y hy i a e => by
      obtain ⟨d, _, rfl⟩ := List.mem_map.mp hy
      have := congrArg asSpot (show spotD sd d = typedD i a from e)
      rw [asSpot_spot h3, asSpot_typed] at this
      cases this
    exact ⟨fun y hy => row 0 _ (by decide) y (List.mem_reverse.mp hy), fun y hy => row 1 _ (by decide) y (List.mem_reverse.mp hy), fun y hy => row 2 _ (by decide) y hy⟩
  have h1 := all_kst ks (fun j k hk y hy i a e => by
    cases k with
    | write w =>
      obtain ⟨b, hb, rfl⟩ := mark_typed hy
      obtain ⟨e1, e2⟩ := typed_inj e
      subst e1 e2
      exact ⟨w, hk, hb⟩
    | _ => cases hy) h0 ks.length
  unfold srcAt at e
  cases hr : (rowS (farS ks) sd)[dp]? with
  | none =>
    rw [hr] at e
    have := congrArg asSpot (show spotD sd _ = typedD i a from e)
    rw [asSpot_spot h, asSpot_typed] at this
    cases this
  | some x =>
    rw [hr] at e
    have e : x = typedD i a := e
    have hx := List.mem_of_getElem? hr
    match sd, h with
    | 0, _ => exact h1.l x (List.mem_reverse.mp hx) i a e
    | 1, _ => exact h1.r x (List.mem_reverse.mp hx) i a e
    | 2, _ => exact h1.c x hx i a e
theorem prF_typed {s : Sid} {n : N3} (hs : SrcRows s) {i a : Nat} : ∀ (f : Nat) (q : Nat × Nat), q.1 < 3 → prF s n f q = typedD i a → ∃ r : Nat × Nat, r.1 < 3 ∧ srcAt s n r.1 r.2 = typedD i a
  | 0, q, h3, h => by
    have h : ringT (ringO s n q) = typedD i a := h
    have := congrArg Dt.items h
    have := congrArg List.length this
    cases this
  | f + 1, q, h3, h => by
    rcases nxt_cases s n q with ⟨r, h1, h2, h4⟩ | ⟨_, h4⟩
    · rw [prF_next h4] at h
      obtain ⟨a1, _, _⟩ := nxt_near hs h3 h4
      exact prF_typed hs f r a1 h
    · rw [h4] at h
      refine ⟨q, h3, ?_⟩
      have hx := srcAt_src hs (n := n) (sd := q.1) (dp := q.2) h3
      generalize srcAt s n q.1 q.2 = x at h hx
      rcases hx with ⟨sd, dp, h3, rfl⟩ | ⟨i', a', rfl⟩
      · unfold offD at h
        rw [asSpot_spot h3] at h
        cases h
      · unfold offD at h
        rw [asSpot_typed] at h
        exact h
def rvL (ks : List Ky) (X : Sd Nat) (t a : Nat) : Nat := letG ks (prs ks X t) (srcAt (farS ks) (farN ks) 0 ((farS ks).l.length - 1 - a))
theorem rows_typed {ks : List Ky} {X : Sd Nat} {T ways : Nat} (h : WideT ks X T) (wo : WaysOk ks ways) {a i b : Nat} (ha : a < gainL ks) (e : (printsK ks)[a]? = some (typedD i b)) {t : Nat} (h1 : ways ≤ t) (h2 : t ≤ T) : rvL ks X t a = typL ks i b := by
  rw [printsK_at ha] at e
  have hgl : gainL ks + (farN ks).1 = (farS ks).l.length := by have := h.gain; unfold gainL; omega
  obtain ⟨qs, x, hx, hr, hl⟩ := wo ((farS ks).l.length - 1 - a) (by omega) (by omega)
  exact (print_again h (by omega) (by omega) hx hr).1 i b (Option.some.inj e) t (by omega) h2
theorem rows_again {ks : List Ky} {X : Sd Nat} {T ways : Nat} (h : WideT ks X T) (wo : WaysOk ks ways) (hno : firstR ∉ printsK ks) {a : Nat} (ha : a < gainL ks) {t : Nat} (h1 : ways ≤ t) (h2 : t + lcmL (printsK ks) ≤ T) : rvL ks X (t + lcmL (printsK ks)) a = rvL ks X t a := by
  have e := printsK_at ha
  have hm := List.mem_of_getElem? e
  have hgl : gainL ks + (farN ks).1 = (farS ks).l.length := by have := h.gain; unfold gainL; omega
  obtain ⟨qs, x, hx, hr, hl⟩ := wo ((farS ks).l.length - 1 - a) (by omega) (by omega)
  have pa := print_again h (by omega) (by omega) hx hr
  rcases (printsK_ok h.gk).1 _ hm with ⟨i, b, _, _, e1⟩ | e1 | ⟨m, _, _, e1⟩
  · unfold rvL
    rw [pa.1 i b e1 t (by omega) (by omega), pa.1 i b e1 (t + lcmL (printsK ks)) (by omega) h2]
  · rw [e1] at hm
    exact absurd hm hno
  · have d : m ∣ lcmL (printsK ks) := by
      rw [lcmL_sizes]
      refine dvd_lcmF _ 1 m (.inr (List.mem_filterMap.mpr ⟨_, hm, ?_⟩))
      rw [e1]
      exact ringM_ring
    obtain ⟨k, hk⟩ := d
    rw [hk] at h2 ⊢
    exact pa.2 m k e1 t (by omega) h2
theorem rowT_is {ks : List Ky} {X : Sd Nat} {T t : Nat} (h : WideT ks X T) (ht : t + 1 ≤ T) : rowT (shOf (prs ks X T)).w X.l.length (gainL ks) (farN ks).1 t = (List.range (gainL ks)).map (rvL ks X t) := by
  obtain ⟨_, l1, _⟩ := wide_at h T (Nat.le_refl T)
  have m1 : (t + 1) * gainL ks = t * gainL ks + gainL ks := Nat.succ_mul _ _
  have m2 := Nat.mul_le_mul_right (gainL ks) ht
  have wl := h.w0.l
  refine List.ext_getElem? fun a => ?_
  unfold rowT
  rw [List.getElem?_take, List.getElem?_map]
  by_cases ha : a < gainL ks
  · rw [if_pos ha, List.getElem?_range ha, List.getElem?_drop]
    have e := row_let h ht ha
    have hj : X.l.length + t * gainL ks - (farN ks).1 + a < (prs ks X T).l.length := by omega
    show ((prs ks X T).l ++ (prs ks X T).r.reverse)[X.l.length + t * gainL ks - (farN ks).1 + a]? = some (rvL ks X t a)
    rw [List.getElem?_append_left hj, List.getElem?_eq_getElem hj]
    rw [List.getD_eq_getElem?_getD, List.getElem?_eq_getElem hj] at e
    exact congrArg some e
  · rw [if_neg ha, List.getElem?_eq_none (by rw [List.length_range]; omega)]
    rfl
theorem start_wide {ks : List Ky} (gk : GoodH ks) {X : Sd Nat} {T : Nat} (hl : 130 ≤ X.l.length) (hr : 3720 ≤ X.r.length) (hc : X.c = []) (hne : printsK ks ≠ []) (hlost : (T + 1) * ((farN ks).2.1 - (farS ks).r.length) < 3500) : WideT ks (steps id ks X) T := by
  obtain ⟨a1, a2, a3⟩ := first_wide gk hl (by omega) hc
  have n1 := nr_le true gk
  have n2 := nr_le false gk
  have e1 : (farN ks).1 = nr true ks := rfl
  have e2 : (farN ks).2.1 = nr false ks := rfl
  have hp : 0 < gainL ks := by
    rw [← printsK_len]
    exact List.length_pos_iff.mpr hne
  refine ⟨gk, by unfold gainL at hp; omega, ⟨by omega, by omega, a3⟩, fun t ht => ?_⟩
  have h1 := Nat.mul_le_mul_left t (show (farN ks).2.1 ≤ (farS ks).r.length + ((farN ks).2.1 - (farS ks).r.length) by omega)
  rw [Nat.mul_add] at h1
  have h2 := Nat.mul_le_mul_right ((farN ks).2.1 - (farS ks).r.length) (show t ≤ T + 1 by omega)
  omega
theorem plain_pln {w : List Nat} (h : Plain w) : Pln (.str w) = true ∧ deep (.str w) = 0 := by
  have ha : ∀ c ∈ alpha, c < 1114112 := by decide +kernel
  refine ⟨?_, by unfold deep; rfl⟩
  unfold Pln
  unfold Plain at h
  rw [List.all_eq_true] at h ⊢
  intro c hc
  have := h c hc
  exact decide_eq_true (ha c (by simpa using this))
theorem strs_pln {rs : List Dt} (h : ∀ r ∈ rs, ∃ w, r = .str w ∧ Plain w) : Pln (.lst rs) = true ∧ deep (.lst rs) ≤ 64 := by
  refine ⟨?_, ?_⟩
  · unfold Pln
    refine plns_of fun d hd => ?_
    obtain ⟨w, rfl, hw⟩ := h d hd
    exact (plain_pln hw).1
  · have := deepAll_le (n := 0) (ds := rs) fun d hd => by
      obtain ⟨w, rfl, hw⟩ := h d hd
      exact Nat.le_of_eq (plain_pln hw).2
    unfold deep
    omega
def spRit : SpD := fun ws C Q _ => ∃ (ks : List Ky) (k : Nat) (z : List Nat) (ways : Nat), ws = [.d (dH ks), .o k, .d (.int (lcmL (printsK ks) : Nat)), .d (shD ⟨z, 130, []⟩), .d (.int (ways : Nat))] ∧ C[k]? = some (.lst ((printsK ks).map W.d)) ∧ GoodH ks ∧ z.length = 3850 ∧ Plain z ∧ printsK ks ≠ [] ∧ firstR ∉ printsK ks ∧
  ways + 2 * lcmL (printsK ks) < 200 ∧ (ways + 2 * lcmL (printsK ks) + 1) * ((farN ks).2.1 - (farS ks).r.length) < 3500 ∧ WaysOk ks ways ∧ Q (.d (.bl true)) C
theorem ok__law_right (T : Txt K mg w) : FnOk P w K mg base CX0 8 T.f__law_right.f T.f__law_right.fd ["hand", "told", "often", "sheet", "ways"] (lft K spRit) := by
  refine okD T.f__law_right.F sc__law_right (fun ws C Q X h => ?_) (fun cv A out s H E hr => ⟨_, (pss_cons (ps_par (i := 5) (j := 6) (by rfl) sc__law_right.nd rfl rfl (by decide) rfl rfl (pa_cons (pe_ix (ix_seqK K) (pe_ix (ix_seqK K) (pe_call (ok__law_far T) (hr.mono (by first | decide | omega)) (by rfl) T.f__law_far.g T.f__law_far.F.kp T.f__law_far.b .nil pass0 (pa_cons (pv 0) pa_nil)) pe_int (fun _ _ => rfl)) pe_int (fun _ _ => rfl)) (pa_cons (pe_op (q_addA K) (pv 4) (pe_op op_mul pe_int (pv 2))) pa_nil)) (by rfl))
      (pss_cons (ps_set (i := 7) sc__law_right.nd rfl (.inl rfl) (pe_call (ok_press T) (hr.mono (by first | decide | omega)) (by rfl) T.f_press.g T.f_press.F.kp T.f_press.bd T.f_press.vd pass0 (pa_cons (pv 3) (pa_cons (pv 0) pa_nil))))
      (pss_cons (ps_set (i := 8) sc__law_right.nd rfl (.inl rfl) (pe_callN (ok_press T) (hr.mono (by first | decide | omega)) (by rfl) T.f_press.g T.f_press.F.kp T.f_press.kb pass0 (pa_cons (pv 7) (pa_cons (pv 0) pa_nil)) (pk_cons (pv 6) pk_nil)))
      (pss_cons (ps_if (pt_cmpR (q_neA K hr.units) (pe_ix (ix_seqK K) (pv 8) pe_int (fun _ _ => rfl)) (pe_op (q_addA K) (pe_ix (ix_seqK K) (pv 7) pe_int (fun _ _ => rfl)) (pe_op op_mul (pv 6) (pe_callB (call_lenK K) (by rfl) T.b_len (by decide +kernel) (pa_cons (pv 1) pa_nil)))) (nomark _)) (pss_one (ps_ret pe_bl)) pss_nil)
      (pss_cons (ps_set (i := 9) sc__law_right.nd rfl (.inl rfl) (pe_lst pa_nil))
      (pss_cons (ps_for PassesOwn.never rfl (pi_range1 (by rfl) T.b_range (pa_cons (pv 6) pa_nil)) (pg_name (i := 10) sc__law_right.nd rfl (.inl rfl))
        (pss_cons (ps_set (i := 11) sc__law_right.nd rfl (.inl rfl) (pe_op op_sub (pe_op (q_addA K) (pe_ix (ix_seqK K) (pv 7) pe_int (fun _ _ => rfl)) (pe_op op_mul (pe_op (q_addA K) (pv 10) pe_int) (pe_callB (call_lenK K) (by rfl) T.b_len (by decide +kernel) (pa_cons (pv 1) pa_nil)))) (pv 5)))
      (pss_one (ps_expr (pe_bmK K PySem.F.plainAttrs_list PySem.F.slot_list_append PySem.F.type_list_append mt_append (pv 9) (pa_cons (pe_slice sl_str (pe_ix (ix_seqK K) (pv 8) pe_int (fun _ _ => rfl)) (po_some (pe_op op_sub (pv 11) (pe_callB (call_lenK K) (by rfl) T.b_len (by decide +kernel) (pa_cons (pv 1) pa_nil)))) (po_some (pv 11))) pa_nil))))))
      (pss_cons (ps_for PassesOwn.never rfl (pi_range1 (by rfl) T.b_range (pa_cons (pe_callB (call_lenK K) (by rfl) T.b_len (by decide +kernel) (pa_cons (pv 1) pa_nil)) pa_nil)) (pg_name (i := 12) sc__law_right.nd rfl (.inr rfl))
        (pss_one (ps_if (pt_cmpR (q_eqA K hr.units) (pe_ix (ix_seqK K) (pe_ix (ix_seqK K) (pv 1) (pv 12) (fun _ _ => rfl)) pe_int (fun _ _ => rfl)) pe_strL (nomark _)) (pss_cons (ps_set (i := 13) sc__law_right.nd rfl (.inr rfl) (pe_ix (ix_seqK K) (pe_ix (ix_seqK K) (pe_ix (ix_seqK K) (pv 0) (pe_ix (ix_seqK K) (pe_ix (ix_seqK K) (pv 1) (pv 12) (fun _ _ => rfl)) pe_int (fun _ _ => rfl)) (fun _ _ => rfl)) pe_int (fun _ _ => rfl)) (pe_ix (ix_seqK K) (pe_ix (ix_seqK K) (pv 1) (pv 12) (fun _ _ => rfl)) pe_int (fun _ _ => rfl)) (fun _ _ => rfl)))
      (pss_one (ps_if (pt_cmpR (q_neA K hr.units) (pe_lcK [14] (pe_lc (own := [("row", 14)]) rfl sc__law_right.nd (pi_row K (pe_slice (sl_listK (K := K)) (pv 9) (po_some (pv 4)) po_none)) (blkOk_by (own := [("row", 14)]) (N := N__law_right) (sc := defScope s__law_right) (by decide +kernel)) (fun _ _ _ _ _ => (pg_name (i := 14) sc__law_right.nd rfl (.inl rfl))) (fun _ _ _ _ _ => (pts_one (pt_cmpR (q_neA K hr.units) (pe_ix (ix_seqK K) (pv 14) (pv 12) (fun _ _ => rfl)) (pv 13) (nomark _)))) (fun _ _ _ _ _ => (pv 14)))) (pe_lst pa_nil) (nomark _)) (pss_one (ps_ret pe_bl)) pss_nil))) pss_nil)))
      (pss_one (ps_ret (pe_cmpR (q_eqA K hr.units) (pe_slice (sl_listK (K := K)) (pv 9) (po_some (pv 4)) (po_some (pe_op (q_addA K) (pv 4) (pv 2)))) (pe_slice (sl_listK (K := K)) (pv 9) (po_some (pe_op (q_addA K) (pv 4) (pv 2))) po_none) (nomark _))))))))))), _, inferInstance, fun ws C Q X h => ?_⟩)
  · obtain ⟨ks, k, z, ways, rfl, _⟩ := h
    rfl
  obtain ⟨ks, k, z, ways, rfl, hk, gk, hz, pz, hne, hno, hlt, hlost, wo, q⟩ := h
  walk_at "dw"
  refine ⟨ks, rfl, gk, ?_⟩
  walk_at "dw"
  rw [show ixW C (W.d (farT ks)) (W.d (.int 0)) = some (.d (nT (farN ks))) from ixW_row (d := farT ks) rfl rfl]
  dsimp only
  rw [show ixW C (W.d (nT (farN ks))) (W.d (.int 0)) = some (.d (.int ((farN ks).1 : Nat))) from ixW_row (d := nT (farN ks)) rfl rfl]
  dsimp only
  obtain ⟨O, hO⟩ : ∃ O, O = lcmL (printsK ks) := ⟨_, rfl⟩
  obtain ⟨P', hP⟩ : ∃ P', P' = gainL ks := ⟨_, rfl⟩
  have lP : (printsK ks).length = P' := by rw [printsK_len, hP]
  have hPs : P' ≤ 4000 := by rw [← lP]; exact (printsK_ok gk).2
  rw [← hO] at hlt hlost ⊢
  obtain ⟨T', hT⟩ : ∃ T', T' = ways + 2 * O := ⟨_, rfl⟩
  rw [← hT] at hlt hlost
  have eT : (ways : Int) + 2 * (O : Int) = (T' : Int) := by omega
  simp only [eT]
  have X0l : (sdOf ⟨z, 130, []⟩).l.length = 130 := by show (z.take 130).length = 130; rw [List.length_take, hz]; rfl
  have X0r : (sdOf ⟨z, 130, []⟩).r.length = 3720 := by show ((z.drop 130).reverse).length = 3720; rw [List.length_reverse, List.length_drop, hz]
  have wT : WideT ks (steps id ks (sdOf ⟨z, 130, []⟩)) T' := start_wide gk (by omega) (by omega) rfl hne hlost
  have p0 : PlainS (sdOf ⟨z, 130, []⟩) := ⟨plain_sub pz fun c hc => List.mem_of_mem_take hc, plain_sub pz fun c hc => List.mem_of_mem_drop (List.mem_reverse.mp hc), rfl⟩
  have p1 : PlainS (steps id ks (sdOf ⟨z, 130, []⟩)) := plain_steps ks gk.ok p0
  have s1 := steps_size id ks (sdOf ⟨z, 130, []⟩) (fun k hk => Nat.le_trans (hwt_mem hk) gk.wt) (Nat.zero_le _)
  have eq1 : pressed ks 1 ⟨z, 130, []⟩ = shOf (steps id ks (sdOf ⟨z, 130, []⟩)) := rfl
  have fw := gk.few
  have sz1 : (steps id ks (sdOf ⟨z, 130, []⟩)).l.length + (steps id ks (sdOf ⟨z, 130, []⟩)).r.length ≤ 7450 := by
    have h1 : (steps id ks (sdOf ⟨z, 130, []⟩)).l.length + (steps id ks (sdOf ⟨z, 130, []⟩)).r.length ≤ (sdOf ⟨z, 130, []⟩).l.length + (sdOf ⟨z, 130, []⟩).r.length + 60 * ks.length := s1.1
    omega
  have c1 := s1.2
  refine ⟨by unfold CMul; left; omega, ⟨z, 130, []⟩, ks, 1, rfl, ⟨pz, by show 130 ≤ z.length; omega, rfl, Nat.zero_le _, by show z.length ≤ _; omega⟩, gk, by decide, by show z.length + 3600 * 1 ≤ _; omega, ?_⟩
  rw [eq1]
  generalize steps id ks (sdOf ⟨z, 130, []⟩) = X at wT p1 sz1 c1 ⊢
  have gX := good_sh p1 c1 (by omega)
  have lX : (shOf X).w.length = X.l.length + X.r.length := by show (X.l ++ X.r.reverse).length = _; rw [List.length_append, List.length_reverse]
  refine ⟨shOf X, ks, T', rfl, gX, gk, by omega, by rw [lX]; omega, ?_⟩
  have eq2 : pressed ks T' (shOf X) = shOf (prs ks X T') := by
    unfold pressed prs
    rw [sd_sh]
  rw [eq2]
  have aw : ∀ a, a < gainL ks → ∀ t, ways ≤ t → t + O ≤ T' → rvL ks X (t + O) a = rvL ks X t a := fun a ha t h1 h2 => by
    rw [hO] at h2 ⊢
    exact rows_again wT wo hno ha h1 h2
  obtain ⟨_, lT, _⟩ := wide_at wT T' (Nat.le_refl T')
  have lw := wT.w0.l
  have rT : ∀ t, t + 1 ≤ T' → rowT (shOf (prs ks X T')).w X.l.length P' (farN ks).1 t = (List.range P').map (rvL ks X t) := fun t ht => by rw [hP]; exact rowT_is wT ht
  rw [← hP] at lT
  have i1 : ∀ (Y : Sd Nat) C, ixW C (.d (shD (shOf Y))) (.d (.int 1)) = some (.d (.int (Y.l.length : Nat))) := fun Y C => ixW_row (d := shD (shOf Y)) rfl rfl
  have i0 : ∀ (Y : Sd Nat) C, ixW C (.d (shD (shOf Y))) (.d (.int 0)) = some (.d (.str (shOf Y).w)) := fun Y C => ixW_row (d := shD (shOf Y)) rfl rfl
  dsimp only
  rw [i1, i1]
  dsimp only
  rw [hk]
  dsimp only
  rw [List.length_map, lP]
  refine ⟨by unfold CMul; left; omega, ?_⟩
  walk_at "dw"
  rw [lT, if_neg (by
    rw [decide_eq_true (by push_cast; rfl)]
    decide)]
  have m2 : ∀ t, t + 1 ≤ T' → t * P' + P' ≤ T' * P' := fun t ht => by rw [← Nat.succ_mul]; exact Nat.mul_le_mul_right P' ht
  have lW : (prs ks X T').l.length ≤ (shOf (prs ks X T')).w.length := by show _ ≤ ((prs ks X T').l ++ (prs ks X T').r.reverse).length; rw [List.length_append]; omega
  have pW : Plain (shOf (prs ks X T')).w := by
    have := plain_prs gk p1 T'
    exact plain_app this.1 (plain_sub this.2.1 fun c hc => List.mem_reverse.mp hc)
  generalize hW : (shOf (prs ks X T')).w = wd at rT lW i0 pW
  have i0' : ∀ C, ixW C (.d (shD (shOf (prs ks X T')))) (.d (.int 0)) = some (.d (.str wd)) := fun C => by rw [← hW]; exact ixW_row (d := shD (shOf (prs ks X T'))) rfl rfl
  have setl : ∀ (C : Cs) (x y : Cell), (C ++ [x]).set C.length y = C ++ [y] := fun C x y => by rw [List.set_append_right _ _ (Nat.le_refl _), Nat.sub_self]; rfl
  refine newL_o ?_
  refine ⟨⟨by omega, by omega⟩, ?_⟩
  rw [Int.toNat_natCast]
  refine DFor.range (fun t ρ C' => ∃ y10 y11, ρ = [some (.d (dH ks)), some (.o k), some (.d (.int (O : Nat))), some (.d (shD ⟨z, 130, []⟩)), some (.d (.int (ways : Nat))), some (.d (.int ((farN ks).1 : Nat))), some (.d (.int (T' : Nat))), some (.d (shD (shOf X))), some (.d (shD (shOf (prs ks X T')))), some (.o C.length), y10, y11, none, none, none] ∧ C' = C ++ [.lst (((List.range t).map fun t => Dt.str (rowT wd X.l.length P' (farN ks).1 t)).map W.d)]) ⟨_, _, rfl, rfl⟩ ?_ ?_
  · rintro ρ C' ⟨y10, y11, rfl, rfl⟩
    generalize hrows : ((List.range T').map fun t => Dt.str (rowT wd X.l.length P' (farN ks).1 t)) = rows
    have hst : ∀ r ∈ rows, ∃ w, r = .str w ∧ Plain w := fun r hr => by
      rw [← hrows] at hr
      obtain ⟨t, _, rfl⟩ := List.mem_map.mp hr
      exact ⟨_, rfl, plain_sub pW fun c hc => List.mem_of_mem_drop (List.mem_of_mem_take hc)⟩
    have lrows : rows.length = T' := by rw [← hrows, List.length_map, List.length_range]
    have rat : ∀ t, t < T' → rows[t]? = some (.str ((List.range P').map (rvL ks X t))) := fun t ht => by
      rw [← hrows, List.getElem?_map, List.getElem?_range ht, ← rT t ht]
      rfl
    walk_at "dw"
    rw [app_at hk]
    dsimp only
    rw [List.length_map, lP]
    refine ⟨⟨by omega, by omega⟩, ?_⟩
    rw [Int.toNat_natCast]
    have hc1 : (C ++ [Cell.lst (rows.map W.d)])[C.length]? = some (.lst (rows.map W.d)) := last_at
    have hk1 : (C ++ [Cell.lst (rows.map W.d)])[k]? = some (.lst ((printsK ks).map W.d)) := app_at hk
    refine DFor.range (fun a ρ C' => ∃ y10 y11 y12 y13 y14, ρ = [some (.d (dH ks)), some (.o k), some (.d (.int (O : Nat))), some (.d (shD ⟨z, 130, []⟩)), some (.d (.int (ways : Nat))), some (.d (.int ((farN ks).1 : Nat))), some (.d (.int (T' : Nat))), some (.d (shD (shOf X))), some (.d (shD (shOf (prs ks X T')))), some (.o C.length), y10, y11, y12, y13, y14] ∧ C' = C ++ [Cell.lst (rows.map W.d)]) ⟨_, _, _, _, _, rfl, rfl⟩ ?_ ?_
    · rintro ρ C' ⟨y10, y11, y12, y13, y14, rfl, rfl⟩
      walk_at "dw"
      rw [hc1]
      dsimp only
      have ew : (ways : Int) + (O : Int) = ((ways + O : Nat) : Int) := by omega
      rw [ew]
      have c1' : cutW (rows.map W.d) (some (ways : Int)) (some ((ways + O : Nat) : Int)) = ((rows.drop ways).take O).map W.d := by
        unfold cutW
        rw [HT.sIx_nat, HT.sIx_nat, List.length_map, lrows, Nat.min_eq_left (by omega), Nat.min_eq_left (by omega), show ways + O - ways = O by omega, List.map_take, List.map_drop]
      have c2' : cutW (rows.map W.d) (some ((ways + O : Nat) : Int)) none = (rows.drop (ways + O)).map W.d := by
        unfold cutW
        rw [HT.sIx_nat, HT.sIx_none, List.length_map, lrows, Nat.min_eq_left (by omega), List.map_drop, List.take_of_length_le (by rw [List.length_drop, List.length_map, lrows]; exact Nat.le_refl _)]
      rw [c1']
      refine newL_d ?_
      rw [hc1]
      dsimp only
      rw [c2']
      refine newL_d ?_
      walk_at "dw"
      have same : (rows.drop ways).take O = rows.drop (ways + O) := by
        refine List.ext_getElem? fun j => ?_
        rw [List.getElem?_take, List.getElem?_drop, List.getElem?_drop]
        by_cases hj : j < O
        · rw [if_pos hj, rat (ways + j) (by omega), rat (ways + O + j) (by omega)]
          congr 2
          refine List.map_congr_left fun a ha => ?_
          have := aw a (by rw [← hP]; exact List.mem_range.mp ha) (ways + j) (by omega) (by omega)
          rw [show ways + O + j = ways + j + O by omega]
          exact this.symm
        · rw [if_neg hj, List.getElem?_eq_none (by omega)]
      rw [same]
      have pl := strs_pln (rs := rows.drop (ways + O)) fun r hr => hst r (List.mem_of_mem_drop hr)
      refine ⟨_, _, rds_d, rds_d, ⟨pl.1, pl.2, pl.1, pl.2⟩, fun c hc => ?_⟩
      have hct : c = true := hc.mpr rfl
      rw [hct]
      exact ret.thing q
    · rintro a ρ C' ha ⟨y10, y11, y12, y13, y14, rfl, rfl⟩
      have hpa : ∃ tp, (printsK ks)[a]? = some tp := ⟨_, List.getElem?_eq_getElem (by omega)⟩
      obtain ⟨tp, htp⟩ := hpa
      have ptp := (printsK_ok gk).1 tp (List.mem_of_getElem? htp)
      walk_at "dw"
      rw [hk1]
      dsimp only
      have atp : atI ((printsK ks).map W.d) ((0 : Int) + (a : Int)) = some (.d tp) := at_ofA (Int.zero_add _) (by rw [List.getElem?_map, htp]; rfl)
      rw [atp]
      dsimp only
      rcases ptp with ⟨i', b', _, _, rfl⟩ | rfl | ⟨m, _, _, rfl⟩
      · obtain ⟨w, hw, hb⟩ : ∃ w, ks[i']? = some (.write w) ∧ b' < w.length := by
          rw [printsK_at (by rw [← hP]; exact ha)] at htp
          obtain ⟨r, r3, hr⟩ := prF_typed (tab_srcs ks _ _ _) _ (0, (farS ks).l.length - 1 - a) (show 0 < 3 by decide) (Option.some.inj htp)
          exact typed_word r3 hr
        have j0 : ∀ C, ixW C (.d (typedD i' b')) (.d (.int 0)) = some (.d (.str (cd "typed"))) := fun C => ixW_row (d := typedD i' b') rfl rfl
        have j1 : ∀ C, ixW C (.d (typedD i' b')) (.d (.int 1)) = some (.d (.int (i' : Nat))) := fun C => ixW_row (d := typedD i' b') rfl rfl
        have j2 : ∀ C, ixW C (.d (typedD i' b')) (.d (.int 2)) = some (.d (.int (b' : Nat))) := fun C => ixW_row (d := typedD i' b') rfl rfl
        rw [j0]
        walk_at "dw"
        rw [j1]
        dsimp only
        rw [show ixW (C ++ [Cell.lst (rows.map W.d)]) (W.d (dH ks)) (W.d (.int (i' : Nat))) = some (.d (kyT (.write w))) from ixW_row rfl (at_ofA rfl (by show (ks.map kyT)[i']? = _; rw [List.getElem?_map, hw]; rfl))]
        dsimp only
        rw [show ixW (C ++ [Cell.lst (rows.map W.d)]) (W.d (kyT (.write w))) (W.d (.int 1)) = some (.d (.str w)) from ixW_row (d := kyT (.write w)) rfl rfl, j2]
        dsimp only
        walk_at "dw"
        refine iteT ?_
        have hty : typL ks i' b' = w[b'] := by
          unfold typL
          rw [hw]
          show w.getD b' 0 = _
          rw [List.getD_eq_getElem?_getD, List.getElem?_eq_getElem hb]
          rfl
        have ab : atI w (b' : Int) = some (w[b']) := at_ofA rfl (List.getElem?_eq_getElem hb)
        rw [ab]
        dsimp only [Option.map_some]
        rw [hc1]
        dsimp only
        have c3' : cutW (rows.map W.d) (some (ways : Int)) none = (rows.drop ways).map W.d := by
          unfold cutW
          rw [HT.sIx_nat, HT.sIx_none, List.length_map, lrows, Nat.min_eq_left (by omega), List.map_drop, List.take_of_length_le (by rw [List.length_drop, List.length_map, lrows]; exact Nat.le_refl _)]
        rw [c3']
        refine newL_d ?_
        rw [rowIt_row (d := .lst (rows.drop ways)) rfl]
        dsimp only
        have ld : (rows.drop ways).length = T' - ways := by rw [List.length_drop, lrows]
        refine DLc.overF (rows.drop ways).length (fun i => .d ((rows.drop ways).getD i .non)) (fun _ => none) (by omega) (fun i acc => itList_if i _) ?_ ?_
        · intro j acc R S hj hR
          have hR : S (C ++ [Cell.lst (rows.map W.d)] ++ [.lst acc]) := hR
          have hx : (rows.drop ways).getD j .non = .str ((List.range P').map (rvL ks X (ways + j))) := by
            rw [List.getD_eq_getElem?_getD, List.getElem?_drop, rat (ways + j) (by omega)]
            rfl
          rw [hx]
          walk_at "dw"
          have at2 : atI ((List.range P').map (rvL ks X (ways + j))) ((0 : Int) + (a : Int)) = some (w[b']) := by
            refine at_ofA (Int.zero_add _) ?_
            rw [List.getElem?_map, List.getElem?_range ha]
            show some (rvL ks X (ways + j) a) = _
            rw [rows_typed wT wo (by rw [← hP]; exact ha) htp (by omega) (by omega), hty]
          rw [at2]
          walk_at "dw"
          try rw [if_neg (by decide)]
          exact hR
        · have e0 : (List.range (rows.drop ways).length).filterMap (fun _ => (none : Option Dt)) = [] := by
            rw [List.filterMap_eq_nil_iff]
            intro _ _
            rfl
          rw [e0]
          refine newL_f (ds := []) rfl ?_
          walk_at "dw"
          have pn : Pln (.lst []) = true ∧ deep (.lst []) ≤ 64 := by
            refine ⟨by unfold Pln Plns; rfl, by unfold deep deepAll; decide⟩
          refine ⟨.lst [], .lst [], rds_d, rds_d, ⟨pn.1, pn.2, pn.1, pn.2⟩, fun c hc => ?_⟩
          rw [hc.mpr rfl]
          exact iteF ⟨_, _, _, _, _, rfl, rfl⟩
      · exact absurd (List.mem_of_getElem? htp) hno
      · rw [ixW_row (d := ringT (some m)) (x := .str (cd "ring")) rfl rfl]
        dsimp only
        walk_at "dw"
        rw [if_neg (by decide +kernel)]
        exact ⟨_, _, _, _, _, rfl⟩
  · rintro t ρ C' ht ⟨y10, y11, rfl, rfl⟩
    have hk' : ∀ ex, (C ++ ex)[k]? = some (.lst ((printsK ks).map W.d)) := fun ex => app_at hk
    have em : ((0 : Int) + (t : Int) + 1) * (P' : Int) = ((t * P' + P' : Nat) : Int) := by push_cast; rw [Int.zero_add, Int.add_mul, Int.one_mul]
    have mt := m2 t ht
    walk_at "dw"
    rw [i1]
    dsimp only
    rw [hk']
    dsimp only
    rw [List.length_map, lP]
    refine ⟨by unfold CMul; left; omega, ?_⟩
    rw [em]
    walk_at "dw"
    have e1 : (X.l.length : Int) + ((t * P' + P' : Nat) : Int) - ((farN ks).1 : Int) = ((X.l.length + t * P' - (farN ks).1 + P' : Nat) : Int) := by omega
    have e2 : ((X.l.length + t * P' - (farN ks).1 + P' : Nat) : Int) - (P' : Int) = ((X.l.length + t * P' - (farN ks).1 : Nat) : Int) := by omega
    rw [e1]
    refine ⟨by rw [last_at]; rfl, ?_⟩
    rw [i0']
    dsimp only
    rw [hk']
    dsimp only
    rw [List.length_map, lP, last_at]
    dsimp only
    rw [e2, HT.sIx_nat, HT.sIx_nat, Nat.min_eq_left (by omega), Nat.min_eq_left (by omega)]
    rw [show X.l.length + t * P' - (farN ks).1 + P' - (X.l.length + t * P' - (farN ks).1) = P' by omega]
    refine ⟨by rw [List.length_map, List.length_map, List.length_range]; omega, _, _, rfl, ?_⟩
    rw [setl, List.range_succ, List.map_append, List.map_append]
    rfl

/-! ## the law -/
def spLaw (K : PySem.W.Frag) : Sp := fun vs H Q _ => ∃ (a : Addr) (ns : List Int), vs = [.ref a] ∧ SqL K H a (ns.map V.int) ∧ ns.length ≤ 63 ∧ ∀ H', Q (.bl true) H'
theorem okD_law (T : Txt K mg w) : FnG P w K mg base CX0 9 T.f_law.f T.f_law.fd ["script"] (lft K (spLawD 63)) := by
  refine okDG T.f_law.F sc_law (fun ws C Q X h => ?_) (fun cv A out s H E hg hr => ⟨_, (pss_cons (ps_set (i := 1) sc_law.nd rfl (.inl rfl) (pe_call (ok__law_spring T) (hr.mono (by first | decide | omega)) (by rfl) T.f__law_spring.g T.f__law_spring.F.kp T.f__law_spring.b .nil pass0 (pa_cons (pv 0) pa_nil)))
      (pss_cons (ps_set (i := 2) sc_law.nd rfl (.inl rfl) (pe_op (q_addA K) (pe_call (ok__law_any T) (hr.mono (by first | decide | omega)) (by rfl) T.f__law_any.g T.f__law_any.F.kp T.f__law_any.b .nil pass0 (pa_cons (pv 1) (pa_cons pe_int pa_nil))) (pe_op op_mul_str (pe_call (ok__law_any T) (hr.mono (by first | decide | omega)) (by rfl) T.f__law_any.g T.f__law_any.F.kp T.f__law_any.b .nil pass0 (pa_cons (pv 1) (pa_cons pe_int pa_nil))) pe_int)))
      (pss_cons (ps_for PassesOwn.never rfl (pi_range1 (by rfl) T.b_range (pa_cons (pe_op (q_addA K) pe_int (pe_callB (q_min2 rfl) (by rfl) T.b_min (by decide +kernel) (pa_cons (pe_callB (call_lenK K) (by rfl) T.b_len (by decide +kernel) (pa_cons (pv 0) pa_nil)) (pa_cons pe_int pa_nil)))) pa_nil)) (pg_name (i := 3) sc_law.nd rfl (.inl rfl))
        (pss_cons (ps_set (i := 4) sc_law.nd rfl (.inl rfl) (pe_call (ok__law_keeper T) (hr.mono (by first | decide | omega)) (by rfl) T.f__law_keeper.g T.f__law_keeper.F.kp T.f__law_keeper.b .nil pass0 (pa_cons (pv 1) pa_nil)))
      (pss_cons (ps_par (i := 5) (j := 6) (by rfl) sc_law.nd rfl rfl (by decide) rfl rfl (pa_cons (pe_call (ok_prints T) (hr.mono (by first | decide | omega)) (by rfl) T.f_prints.g T.f_prints.F.kp T.f_prints.b .nil pass0 (pa_cons (pv 4) pa_nil)) (pa_cons (pe_call (ok_round_of_prints T) (hr.mono (by first | decide | omega)) (by rfl) T.f_round_of_prints.g T.f_round_of_prints.F.kp T.f_round_of_prints.b .nil pass0 (pa_cons (pv 4) pa_nil)) pa_nil)) (by rfl))
      (pss_one (ps_if (pt_cmpR q_notN (pv 6) pe_non (nomark _)) (pss_cons (ps_set (i := 7) sc_law.nd rfl (.inr rfl) (pe_call (ok__law_far T) (hr.mono (by first | decide | omega)) (by rfl) T.f__law_far.g T.f__law_far.F.kp T.f__law_far.b .nil pass0 (pa_cons (pv 4) pa_nil)))
      (pss_cons (ps_set (i := 8) sc_law.nd rfl (.inr rfl) (pe_ix (ix_seqK K) (pe_ix (ix_seqK K) (pv 7) pe_int (fun _ _ => rfl)) pe_int (fun _ _ => rfl)))
      (pss_cons (ps_lcK [13] (ps_setLc (i := 9) (own := [("at", 13)]) rfl sc_law.nd rfl rfl (sw_true rfl rfl rfl (by decide +kernel)) (pi_range1 (by rfl) T.b_range (pa_cons (pe_callB (call_lenK K) (by rfl) T.b_len (by decide +kernel) (pa_cons (pv 5) pa_nil)) pa_nil)) (blkOk_by (own := [("at", 13)]) (N := N_law) (sc := defScope s_law) (by decide +kernel)) (fun _ _ _ _ _ => (pg_name (i := 13) sc_law.nd rfl (.inl rfl))) (fun _ _ _ _ _ => pts_nil) (fun _ _ _ _ _ => (pe_ix (ix_seqK K) (pe_ix (ix_seqK K) (pe_ix (ix_seqK K) (pv 7) pe_int (fun _ _ => rfl)) pe_int (fun _ _ => rfl)) (pe_op (q_addA K) (pv 8) (pv 13)) (fun _ _ => rfl)))))
      (pss_cons (ps_set (i := 10) sc_law.nd rfl (.inl rfl) (pe_op (q_addA K) pe_int (pe_callB (q_maxL K rfl) (by rfl) T.b_max (by decide +kernel) (pa_cons (pe_lcK [14] (pe_lc (own := [("spot", 14)]) rfl sc_law.nd (pi_row K (pv 9)) (blkOk_by (own := [("spot", 14)]) (N := N_law) (sc := defScope s_law) (by decide +kernel)) (fun _ _ _ _ _ => (pg_name (i := 14) sc_law.nd rfl (.inl rfl))) (fun _ _ _ _ _ => pts_nil) (fun _ _ _ _ _ => (pe_callB (call_lenK K) (by rfl) T.b_len (by decide +kernel) (pa_cons (pe_ix (ix_seqK K) (pe_call (ok__law_row T) (hr.mono (by first | decide | omega)) (by rfl) T.f__law_row.g T.f__law_row.F.kp T.f__law_row.b .nil pass0 (pa_cons (pv 7) (pa_cons (pv 14) pa_nil))) pe_int (fun _ _ => rfl)) pa_nil))))) pa_nil))))
      (pss_cons (ps_set (i := 11) sc_law.nd rfl (.inl rfl) (pe_tup (pa_cons (pv 2) (pa_cons pe_int (pa_cons pe_strL pa_nil)))))
      (pss_cons (ps_set (i := 12) sc_law.nd rfl (.inl rfl) (pe_op op_sub (pe_op (q_addA K) (pe_ix (ix_seqK K) (pe_ix (ix_seqK K) (pv 7) pe_int (fun _ _ => rfl)) pe_int (fun _ _ => rfl)) pe_int) (pe_callB (call_lenK K) (by rfl) T.b_len (by decide +kernel) (pa_cons (pe_ix (ix_seqK K) (pe_ix (ix_seqK K) (pv 7) pe_int (fun _ _ => rfl)) pe_int (fun _ _ => rfl)) pa_nil))))
      (pss_one (ps_if (PW.pt (pw_and (pt_cmpR op_lt (pe_op (q_addA K) (pv 10) (pe_op op_mul pe_int (pv 6))) pe_int (nomark _)) (pw_and1 (pt_cmpR op_lt (pe_op op_mul (pe_op (q_addA K) (pe_op (q_addA K) (pv 10) (pe_op op_mul pe_int (pv 6))) pe_int) (pe_callB (q_max2 rfl) (by rfl) T.b_max (by decide +kernel) (pa_cons pe_int (pa_cons (pv 12) pa_nil)))) pe_int (nomark _))))) (pss_one (ps_if (pt_not (pt_val (pe_call (ok__law_right T) (hr.mono (by first | decide | omega)) (by rfl) T.f__law_right.g T.f__law_right.F.kp T.f__law_right.b .nil pass0 (pa_cons (pv 4) (pa_cons (pv 5) (pa_cons (pv 6) (pa_cons (pv 11) (pa_cons (pv 10) pa_nil)))))))) (pss_one (ps_ret pe_bl)) pss_nil)) pss_nil)))))))) pss_nil)))))
      (pss_one (ps_ret pe_bl))))), _, inferInstance, fun ws C Q X h => ?_⟩)
  · obtain ⟨ns, rfl, _⟩ := h
    rfl
  obtain ⟨ns, rfl, hl, rfl, q⟩ := h
  walk_at "dw"
  refine ⟨ns, rfl, hl, fun F S hF hS hS2 => ?_⟩
  have hb : Sprg ([] ++ [SprW F S 0]) ([] : Cs).length := ⟨F, S, 0, last_at, hF, hS, hS2, by decide⟩
  generalize ([] : Cs) ++ [SprW F S 0] = C0 at hb ⊢
  generalize ([] : Cs).length = b at hb ⊢
  have c0 := hb.lt
  walk_at "dw"
  refine ⟨b, 130, rfl, hb, by decide, fun z1 C1 l1 p1 b1 => ?_⟩
  refine ⟨b, 40, rfl, b1.spr, by decide, fun z2 C2 l2 p2 b2 => ?_⟩
  walk_at "dw"
  have lz : (z1 ++ (List.replicate 93 z2).flatten).length = 3850 := by
    rw [List.length_append, List.length_flatten, List.map_replicate, List.sum_replicate_nat, l1, l2]
  have pz : Plain (z1 ++ (List.replicate 93 z2).flatten) := plain_app p1 (plain_flatS fun y hy => by rw [List.eq_of_mem_replicate hy]; exact p2)
  refine ⟨93, rfl, by decide, by omega, by omega, ?_⟩
  generalize z1 ++ (List.replicate 93 z2).flatten = z at lz pz ⊢
  have c6 : (2 : Int) + iMin (ns.length : Int) 6 ≤ 12 ∧ -(2 ^ 62) ≤ (2 : Int) + iMin (ns.length : Int) 6 := by
    unfold iMin
    split <;> omega
  refine ⟨⟨c6.2, by omega⟩, ?_⟩
  have b12 := b1.trans b2
  refine DFor.range (fun i ρ C' => ∃ y3 y4 y5 y6 y7 y8 y9 y10 y11 y12 y13 y14, ρ = [some (.d (scriptD ns)), some (.o b), some (.d (.str z)), y3, y4, y5, y6, y7, y8, y9, y10, y11, y12, y13, y14] ∧ STo b C0 C') ⟨_, _, _, _, _, _, _, _, _, _, _, _, rfl, b12⟩ ?_ ?_
  · rintro ρ C1 ⟨y3, y4, y5, y6, y7, y8, y9, y10, y11, y12, y13, y14, rfl, b1⟩
    walk_at "dw"
    exact ret.same (q _)
  · rintro i ρ C1 hi ⟨y3, y4, y5, y6, y7, y8, y9, y10, y11, y12, y13, y14, rfl, b1⟩
    walk_at "dw"
    refine ⟨b, rfl, b1.spr, fun ks C2 gk wk b2 => ?_⟩
    walk_at "dw"
    refine ⟨_, dH ks, ks, rfl, .inl rfl, ⟨rfl, gk⟩, ?_⟩
    have hk : (C2 ++ [Cell.lst ((printsK ks).map W.d)])[C2.length]? = some (.lst ((printsK ks).map W.d)) := last_at
    have b3 : STo b C0 (C2 ++ [Cell.lst ((printsK ks).map W.d)]) := (b1.trans b2).app _
    have kb : C2.length ≠ b := fun e => by have := (b1.trans b2).spr.lt; omega
    generalize C2.length = k at hk kb ⊢
    generalize C2 ++ [Cell.lst ((printsK ks).map W.d)] = C3 at hk b3 ⊢
    refine ⟨_, dH ks, ks, rfl, .inl rfl, ⟨rfl, gk⟩, ?_⟩
    by_cases hn : printsK ks = [] ∨ firstR ∈ printsK ks
    · rw [show roundT (printsK ks) = .non from if_pos hn]
      walk_at "dw"
      exact ⟨_, _, _, _, _, _, _, _, _, _, _, _, rfl, b3⟩
    obtain ⟨hne, hno⟩ := not_or.mp hn
    rw [show roundT (printsK ks) = .int (lcmL (printsK ks) : Nat) from if_neg hn]
    walk_at "dw"
    refine ⟨ks, rfl, gk, ?_⟩
    walk_at "dw"
    obtain ⟨f1, f2⟩ := near_fits gk (Nat.le_refl (nr true ks)) (Nat.le_refl (nr false ks))
    have hs : SrcRows (farS ks) := tab_srcs ks _ _ _
    have n1 := nr_le true gk
    have n2 := nr_le false gk
    have hl := tab_len gk
    obtain ⟨ok, ln⟩ := printsK_ok gk
    have i0 : ∀ C, ixW C (.d (farT ks)) (.d (.int 0)) = some (.d (nT (farN ks))) := fun C => ixW_row (d := farT ks) rfl rfl
    have i1 : ∀ C, ixW C (.d (farT ks)) (.d (.int 1)) = some (.d (tabT ks (nr true ks + 130) (nr false ks + 130) (heldK ks))) := fun C => ixW_row (d := farT ks) rfl rfl
    have el : (tabD ks (nr true ks + 130) (nr false ks + 130) (heldK ks)).l = (farS ks).l ++ more 0 (nr true ks) 130 := by rw [tab_far f1 f2]; rfl
    have er : (tabD ks (nr true ks + 130) (nr false ks + 130) (heldK ks)).r = (farS ks).r ++ more 1 (nr false ks) 130 := by rw [tab_far f1 f2]; rfl
    have a0 : ∀ C, ixW C (.d (tabT ks (nr true ks + 130) (nr false ks + 130) (heldK ks))) (.d (.int 0)) = some (.d (.lst ((farS ks).l ++ more 0 (nr true ks) 130))) := fun C => by
      rw [← el]
      exact ixW_row (d := tabT ks (nr true ks + 130) (nr false ks + 130) (heldK ks)) rfl rfl
    have a1 : ∀ C, ixW C (.d (tabT ks (nr true ks + 130) (nr false ks + 130) (heldK ks))) (.d (.int 1)) = some (.d (.lst ((farS ks).r ++ more 1 (nr false ks) 130))) := fun C => by
      rw [← er]
      exact ixW_row (d := tabT ks (nr true ks + 130) (nr false ks + 130) (heldK ks)) rfl rfl
    have b0 : ∀ C, ixW C (.d (nT (farN ks))) (.d (.int 0)) = some (.d (.int (nr true ks : Nat))) := fun C => ixW_row (d := nT (farN ks)) rfl rfl
    have bb1 : ∀ C, ixW C (.d (nT (farN ks))) (.d (.int 1)) = some (.d (.int (nr false ks : Nat))) := fun C => ixW_row (d := nT (farN ks)) rfl rfl
    have lm : (more 1 (nr false ks) 130).length = 130 := by unfold more; rw [List.length_map, List.length_range]
    rw [i0]
    dsimp only
    rw [b0]
    dsimp only
    walk_at "dw"
    rw [hk]
    dsimp only
    obtain ⟨P', hP⟩ : ∃ P', P' = (printsK ks).length := ⟨_, rfl⟩
    have eP : P' = (farS ks).l.length - nr true ks := by rw [hP, printsK_len]; rfl
    rw [List.length_map, ← hP, Int.toNat_natCast]
    refine ⟨⟨by omega, by omega⟩, ?_⟩
    refine DLc.pure P' (fun a => .d (.int (0 + a))) (fun a => srcAt (farS ks) (farN ks) 0 (nr true ks + a)) (by omega) (fun a C => itRng_if a C) (fun a acc R S ha hR => ?_) ?_
    · have ha2 : nr true ks + a < (farS ks).l.length := by omega
      walk_at "dw"
      rw [i1]
      dsimp only
      rw [a0]
      dsimp only
      have e1 : (nr true ks : Int) + ((0 : Int) + (a : Nat)) = ((nr true ks + a : Nat) : Int) := by omega
      walk_at "dw"
      rw [e1]
      have src : atI ((farS ks).l ++ more 0 (nr true ks) 130) ((nr true ks + a : Nat) : Int) = some (srcAt (farS ks) (farN ks) 0 (nr true ks + a)) := by
        have e2 : ((farS ks).l ++ more 0 (nr true ks) 130)[nr true ks + a]? = some (srcAt (farS ks) (farN ks) 0 (nr true ks + a)) := by
          rw [List.getElem?_append_left ha2]
          unfold srcAt
          show (rowS (farS ks) 0)[nr true ks + a]? = _
          have : (rowS (farS ks) 0)[nr true ks + a]? = some ((farS ks).l[nr true ks + a]) := List.getElem?_eq_getElem ha2
          rw [this]
        exact at_ofA rfl e2
      rw [src]
      exact hR
    walk_at "dw"
    have hit : ∀ i C', itList (((List.range P').map fun a => srcAt (farS ks) (farN ks) 0 (nr true ks + a)).map W.d) i C' (if i < P' then some (W.d (srcAt (farS ks) (farN ks) 0 (nr true ks + i))) else none) := fun i C' => by
      have := itList_if (ds := (List.range P').map fun a => srcAt (farS ks) (farN ks) 0 (nr true ks + a)) i C'
      rw [List.length_map, List.length_range] at this
      by_cases h : i < P'
      · rw [if_pos h] at this ⊢
        have e : ((List.range P').map fun a => srcAt (farS ks) (farN ks) 0 (nr true ks + a)).getD i .non = srcAt (farS ks) (farN ks) 0 (nr true ks + i) := by
          rw [List.getD_eq_getElem?_getD, List.getElem?_map, List.getElem?_range h]
          rfl
        rw [← e]
        exact this
      · rw [if_neg h] at this ⊢
        exact this
    have b3l := b3.spr.lt
    refine DLc.gen P' (fun i => .d (srcAt (farS ks) (farN ks) 0 (nr true ks + i))) (fun i ds C' => STo b C3 C' ∧ ∃ ls : List Nat, ds = (ls.map fun n => ((n : Nat) : Int)).map Dt.int ∧ ls.length = i ∧ ∀ a, a < i → ∃ qs x, IsSrc x ∧ RowX (farS ks) (farN ks) (srcAt (farS ks) (farN ks) 0 (nr true ks + a)) qs x ∧ qs.length ∈ ls) (by omega) ⟨(STo.refl b3.spr).app _, [], rfl, rfl, fun a ha => nomatch ha⟩ (fun i ds C' hi _ => hit i C') ?_ ?_
    · rintro a ds C4 ha ⟨b4, ls, rfl, hls, hrow⟩ hc R S hR hS
      walk_at "dw"
      refine ⟨ks, _, rfl, gk, srcAt_src hs (by decide), fun t j C5 qs x hex ht hj hx lq _ hrx => ?_⟩
      obtain ⟨ex, rfl⟩ := ext_split hex
      have b5 := b4.app ex
      have hc5 := hex _ _ hc
      generalize C4 ++ ex = C5 at b5 hc5 ht hj ⊢
      walk_at "dw"
      rw [ht]
      walk_at "dw"
      rw [hj]
      dsimp only
      rw [List.length_map]
      refine hR _ C5 hc5 ⟨b5.mut (Nat.le_refl _) b3l _, ls ++ [qs.length], by rw [List.map_append, List.map_append]; rfl, by rw [List.length_append, hls]; rfl, fun a' ha' => ?_⟩
      rcases Nat.lt_or_ge a' a with h | h
      · obtain ⟨qs', x', h1, h2, h3⟩ := hrow a' h
        exact ⟨qs', x', h1, h2, List.mem_append_left _ h3⟩
      · rw [show a' = a by omega]
        exact ⟨qs, x, hx, hrx, List.mem_append_right _ (List.mem_singleton.mpr rfl)⟩
    · rintro ds C4 ⟨b4, ls, rfl, hls, hrow⟩ hc _
      refine Or.inl ?_
      have hk4 := b4.at kb hk
      have b5 := b3.trans b4
      have lw : lstW C4 (.o C3.length) = some (intT (ls.map fun n => ((n : Nat) : Int))) := by
        show (match C4[C3.length]? with | some (.lst ws) => some ws | _ => none) = _
        rw [hc]
        rfl
      have lp : 0 < P' := by
        rw [hP]
        exact List.length_pos_iff.mpr hne
      refine ⟨_, _, rfl, lw, by rw [List.length_map]; omega, fun m hm hmax => ?_⟩
      obtain ⟨n, hnm, rfl⟩ := List.mem_map.mp hm
      have wo : WaysOk ks (1 + n) := fun dp h1 h2 => by
        obtain ⟨qs, x, hx, hr, hmem⟩ := hrow (dp - nr true ks) (by have h1 : nr true ks ≤ dp := h1; omega)
        have h1 : nr true ks ≤ dp := h1
        rw [show nr true ks + (dp - nr true ks) = dp by omega] at hr
        have := hmax _ (List.mem_map_of_mem hmem)
        exact ⟨qs, x, hx, hr, by omega⟩
      walk_at "dw"
      rw [i0]
      dsimp only
      rw [bb1]
      dsimp only
      walk_at "dw"
      rw [i1]
      dsimp only
      rw [a1]
      dsimp only
      rw [show lenW C4 (W.d (.lst ((farS ks).r ++ more 1 (nr false ks) 130))) = some ((farS ks).r.length + 130) from by show some _ = _; rw [List.length_append, lm]]
      dsimp only
      refine ⟨by unfold CMul; omega, ?_⟩
      walk_at "dw"
      by_cases w1 : (1 : Int) + (n : Nat) + 2 * (lcmL (printsK ks) : Nat) < 200
      · rw [if_pos (decide_eq_true w1)]
        obtain ⟨O, hO⟩ : ∃ O, O = lcmL (printsK ks) := ⟨_, rfl⟩
        rw [← hO] at w1 ⊢
        have em : iMax 0 ((nr false ks : Int) + 130 - ((farS ks).r.length + 130 : Nat)) = ((nr false ks - (farS ks).r.length : Nat) : Int) := by
          unfold iMax
          split <;> omega
        rw [em]
        refine ⟨by unfold CMul; omega, by unfold CMul; omega, ?_⟩
        have ew : ((1 : Int) + (n : Nat) + 2 * (O : Nat) + 1) * ((nr false ks - (farS ks).r.length : Nat) : Int) = (((1 + n + 2 * O + 1) * (nr false ks - (farS ks).r.length) : Nat) : Int) := by
          rw [Int.natCast_mul]
          congr 1
        rw [ew]
        by_cases w2 : (1 + n + 2 * O + 1) * (nr false ks - (farS ks).r.length) < 3500
        · rw [if_pos (decide_eq_true (by omega))]
          refine ⟨ks, k, z, 1 + n, ?_, hk4, gk, lz, pz, hne, hno, ?_, ?_, wo, ?_⟩
          · rw [← hO, show (((1 + n : Nat) : Nat) : Int) = 1 + (n : Nat) by omega]
            rfl
          · rw [← hO]
            omega
          · rw [← hO]
            exact w2
          · exact ⟨_, _, _, _, _, _, _, _, _, _, _, _, rfl, b5⟩
        · rw [if_neg (by rw [decide_eq_true_iff]; omega)]
          exact ⟨_, _, _, _, _, _, _, _, _, _, _, _, rfl, b5⟩
      · rw [if_neg (by rw [decide_eq_true_iff]; exact w1)]
        exact ⟨_, _, _, _, _, _, _, _, _, _, _, _, rfl, b5⟩
theorem ok_law (T : Txt K mg w) : FnG P w K mg base CX0 9 T.f_law.f T.f_law.fd ["script"] (spLaw K) := by
  have F := okD_law (base := base) (P := P) T
  have ad : ∀ vs H Q E, spLaw K vs H Q E → lft K (spLawD 63) vs H Q E := fun vs H Q E h => by
    obtain ⟨a, ns, hv, hs, hl, q⟩ := h
    exact law_lft hv hs hl q
  exact ⟨fun vs H Q E h => F.ln vs H Q E (ad _ _ _ _ h), fun A out s H ar us vs Q E hg hr he hb hv h => F.go A out s H ar us vs Q E hg hr he hb hv (ad _ _ _ _ h)⟩

end
theorem bd_press {K : PySem.W.Frag} {f : Addr} {fd : FuncData} (F : FunD K "press" "press" (defArgs s_press) (defBody s_press) (defScope s_press) [] [("times", .int 1)] f fd) : ∃ ds, Vals [V.int 1] ds ∧ Binds K fd ["sheet", "hand", "times"] ds :=
  F.binds0 2 (by decide) rfl fun D doc pm an cdv ct us ks hu hk => match us, ks, hu, hk with | [_, _], [_], _, _ => ⟨_, _, _, _, _, _, rfl, rfl, rfl⟩
theorem kb_press {K : PySem.W.Frag} {f : Addr} {fd : FuncData} (F : FunD K "press" "press" (defArgs s_press) (defBody s_press) (defScope s_press) [] [("times", .int 1)] f fd) : KBn K fd ["sheet", "hand", "times"] 2 ["times"] (fun us ws => us ++ ws) (fun vs zs => vs ++ zs) := by
  obtain ⟨oc, od, dV, kV, doc, pm, an, cdv, ct, osl, rfl, lk, hcd, hD, hK⟩ := F.ex
  rcases hD with ⟨_, rfl⟩ | ⟨e, _⟩
  · exact ⟨fun s us ws _ hu hw => match us, ws, hu, hw with | [_, _], [_], _, _ => .of_eq rfl, fun r1 r2 => r1.append r2⟩
  · exact absurd rfl e
theorem all_mk {l : PySem.W.OpenLaw} {w : World} {K : PySem.W.Frag} {h : Heap} {mg : Str → Option Value} {fa : Addr} (X : K.In h) (G : h.Ns mainGlobals mg) (hfa : mg "law" = some (.ref fa))
    {C_Far : Addr}
    {f0 : Addr} {od0 an0 : Option Addr} {sl0 : Array (Option Value)} {oc0 dc0 pm0 cd0 ct0 : Value} {kV0 : Value}
    {f1 : Addr} {od1 an1 : Option Addr} {sl1 : Array (Option Value)} {oc1 dc1 pm1 cd1 ct1 : Value} {kV1 : Value}
    {f2 : Addr} {od2 an2 : Option Addr} {sl2 : Array (Option Value)} {oc2 dc2 pm2 cd2 ct2 : Value} {kV2 : Value}
    {f3 : Addr} {od3 an3 : Option Addr} {sl3 : Array (Option Value)} {oc3 dc3 pm3 cd3 ct3 : Value} {kV3 : Value}
    {f4 : Addr} {od4 an4 : Option Addr} {sl4 : Array (Option Value)} {oc4 dc4 pm4 cd4 ct4 : Value} {kV4 : Value}
    {f5 : Addr} {od5 an5 : Option Addr} {sl5 : Array (Option Value)} {oc5 dc5 pm5 cd5 ct5 : Value} {kV5 : Value}
    {f6 : Addr} {od6 an6 : Option Addr} {sl6 : Array (Option Value)} {oc6 dc6 pm6 cd6 ct6 : Value} {kV6 : Value}
    {f7 : Addr} {od7 an7 : Option Addr} {sl7 : Array (Option Value)} {oc7 dc7 pm7 cd7 ct7 : Value} {kV7 : Value}
    {f8 : Addr} {od8 an8 : Option Addr} {sl8 : Array (Option Value)} {oc8 dc8 pm8 cd8 ct8 : Value} {kV8 : Value}
    {f9 : Addr} {od9 an9 : Option Addr} {sl9 : Array (Option Value)} {oc9 dc9 pm9 cd9 ct9 : Value} {kV9 : Value}
    {f10 : Addr} {od10 an10 : Option Addr} {sl10 : Array (Option Value)} {oc10 dc10 pm10 cd10 ct10 : Value} {kV10 : Value}
    {f11 : Addr} {od11 an11 : Option Addr} {sl11 : Array (Option Value)} {oc11 dc11 pm11 cd11 ct11 : Value} {kV11 : Value}
    {f12 : Addr} {od12 an12 : Option Addr} {sl12 : Array (Option Value)} {oc12 dc12 pm12 cd12 ct12 : Value} {kV12 : Value}
    {f13 : Addr} {od13 an13 : Option Addr} {sl13 : Array (Option Value)} {oc13 dc13 pm13 cd13 ct13 : Value} {kV13 : Value}
    {f14 : Addr} {od14 an14 : Option Addr} {sl14 : Array (Option Value)} {oc14 dc14 pm14 cd14 ct14 : Value} {kV14 : Value}
    {f15 : Addr} {od15 an15 : Option Addr} {sl15 : Array (Option Value)} {oc15 dc15 pm15 cd15 ct15 : Value} {kV15 : Value}
    {f16 : Addr} {od16 an16 : Option Addr} {sl16 : Array (Option Value)} {oc16 dc16 pm16 cd16 ct16 : Value} {D16 : Addr}
    {tk16 : Tok}
    {f17 : Addr} {od17 an17 : Option Addr} {sl17 : Array (Option Value)} {oc17 dc17 pm17 cd17 ct17 : Value} {kV17 : Value}
    {f18 : Addr} {od18 an18 : Option Addr} {sl18 : Array (Option Value)} {oc18 dc18 pm18 cd18 ct18 : Value} {kV18 : Value}
    {f19 : Addr} {od19 an19 : Option Addr} {sl19 : Array (Option Value)} {oc19 dc19 pm19 cd19 ct19 : Value} {kV19 : Value}
    {f20 : Addr} {od20 an20 : Option Addr} {sl20 : Array (Option Value)} {oc20 dc20 pm20 cd20 ct20 : Value} {kV20 : Value}
    {f21 : Addr} {od21 an21 : Option Addr} {sl21 : Array (Option Value)} {oc21 dc21 pm21 cd21 ct21 : Value} {kV21 : Value}
    {f22 : Addr} {od22 an22 : Option Addr} {sl22 : Array (Option Value)} {oc22 dc22 pm22 cd22 ct22 : Value} {kV22 : Value}
    {f23 : Addr} {od23 an23 : Option Addr} {sl23 : Array (Option Value)} {oc23 dc23 pm23 cd23 ct23 : Value} {kV23 : Value}
    {f24 : Addr} {od24 an24 : Option Addr} {sl24 : Array (Option Value)} {oc24 dc24 pm24 cd24 ct24 kV24 : Value}
    {f25 : Addr} {od25 an25 : Option Addr} {sl25 : Array (Option Value)} {oc25 dc25 pm25 cd25 ct25 kV25 : Value}
    {f26 : Addr} {od26 an26 : Option Addr} {sl26 : Array (Option Value)} {oc26 dc26 pm26 cd26 ct26 kV26 : Value}
    {f27 : Addr} {od27 an27 : Option Addr} {sl27 : Array (Option Value)} {oc27 dc27 pm27 cd27 ct27 kV27 : Value}
    {f28 : Addr} {od28 an28 : Option Addr} {sl28 : Array (Option Value)} {oc28 dc28 pm28 cd28 ct28 kV28 : Value}
    {f29 : Addr} {od29 an29 : Option Addr} {sl29 : Array (Option Value)} {oc29 dc29 pm29 cd29 ct29 kV29 : Value}
    {f30 : Addr} {od30 an30 : Option Addr} {sl30 : Array (Option Value)} {oc30 dc30 pm30 cd30 ct30 : Value} {kV30 : Value}
    {f31 : Addr} {od31 an31 : Option Addr} {sl31 : Array (Option Value)} {oc31 dc31 pm31 cd31 ct31 : Value} {kV31 : Value}
    {f32 : Addr} {od32 an32 : Option Addr} {sl32 : Array (Option Value)} {oc32 dc32 pm32 cd32 ct32 : Value} {kV32 : Value}
    {f33 : Addr} {od33 an33 : Option Addr} {sl33 : Array (Option Value)} {oc33 dc33 pm33 cd33 ct33 : Value} {kV33 : Value}
    {f34 : Addr} {od34 an34 : Option Addr} {sl34 : Array (Option Value)} {oc34 dc34 pm34 cd34 ct34 : Value} {kV34 : Value}
    {f35 : Addr} {od35 an35 : Option Addr} {sl35 : Array (Option Value)} {oc35 dc35 pm35 cd35 ct35 : Value} {kV35 : Value}
    {f36 : Addr} {od36 an36 : Option Addr} {sl36 : Array (Option Value)} {oc36 dc36 pm36 cd36 ct36 : Value} {kV36 : Value}
    {f37 : Addr} {od37 an37 : Option Addr} {sl37 : Array (Option Value)} {oc37 dc37 pm37 cd37 ct37 : Value} {kV37 : Value}
    {f38 : Addr} {od38 an38 : Option Addr} {sl38 : Array (Option Value)} {oc38 dc38 pm38 cd38 ct38 : Value} {kV38 : Value}
    {f39 : Addr} {od39 an39 : Option Addr} {sl39 : Array (Option Value)} {oc39 dc39 pm39 cd39 ct39 : Value} {kV39 : Value}
    {f40 : Addr} {od40 an40 : Option Addr} {sl40 : Array (Option Value)} {oc40 dc40 pm40 cd40 ct40 : Value} {kV40 : Value}
    {f41 : Addr} {od41 an41 : Option Addr} {sl41 : Array (Option Value)} {oc41 dc41 pm41 cd41 ct41 : Value} {kV41 : Value}
    {f42 : Addr} {od42 an42 : Option Addr} {sl42 : Array (Option Value)} {oc42 dc42 pm42 cd42 ct42 : Value} {kV42 : Value}
    {f43 : Addr} {od43 an43 : Option Addr} {sl43 : Array (Option Value)} {oc43 dc43 pm43 cd43 ct43 : Value} {kV43 : Value}
    {f44 : Addr} {od44 an44 : Option Addr} {sl44 : Array (Option Value)} {oc44 dc44 pm44 cd44 ct44 : Value} {kV44 : Value}
    {t_ALPHABET : Tok}
    {t_HEAVIEST : Tok}
    {t_LONGEST_WORD : Tok}
    {t_MOST_TIMES : Tok}
    {d_NUMBERS : Addr} {es_NUMBERS : Array DictEntry} {n_NUMBERS : Nat}
    {d_SIDES : Addr} {es_SIDES : Array DictEntry} {n_SIDES : Nat}
    (g_Far : PySem.W.nsIn K mainGlobals "Far" = some (some (.ref C_Far))) (pg_Far : PySem.W.plainGet K C_Far Str.empty = true) (hd_Far : PySem.W.hasDictIn K C_Far = true) (po_Far : PySem.W.plainOver K C_Far = true) (sa_Far : PySem.W.findIn K (.ref C_Far) "__setattr__" = some (some (.builtin "object.__setattr__"))) (mk_Far : PySem.W.makesIn K C_Far = true) (kc_Far : PySem.W.keepIn K (.ref C_Far) = true)
    (n_Far_near : PySem.W.findIn K (.ref C_Far) "near" = some none)
    (n_Far_rows : PySem.W.findIn K (.ref C_Far) "rows" = some none)
    (a0 : PySem.W.nsIn K mainGlobals "is_row" = some (some (.ref f0))) (l0 : K.lookup f0 = some ⟨oc0, od0, .func (PySem.W.fnOf "is_row" "is_row" (defArgs s_is_row) (defBody s_is_row) (defScope s_is_row) .none kV0 dc0 pm0 an0 cd0 ct0), sl0⟩) (c0 : PySem.W.codeIn K cd0 "is_row" = true) (k0 : PySem.W.keepIn K (.ref f0) = true)
    (a1 : PySem.W.nsIn K mainGlobals "is_whole" = some (some (.ref f1))) (l1 : K.lookup f1 = some ⟨oc1, od1, .func (PySem.W.fnOf "is_whole" "is_whole" (defArgs s_is_whole) (defBody s_is_whole) (defScope s_is_whole) .none kV1 dc1 pm1 an1 cd1 ct1), sl1⟩) (c1 : PySem.W.codeIn K cd1 "is_whole" = true) (k1 : PySem.W.keepIn K (.ref f1) = true)
    (a2 : PySem.W.nsIn K mainGlobals "is_within" = some (some (.ref f2))) (l2 : K.lookup f2 = some ⟨oc2, od2, .func (PySem.W.fnOf "is_within" "is_within" (defArgs s_is_within) (defBody s_is_within) (defScope s_is_within) .none kV2 dc2 pm2 an2 cd2 ct2), sl2⟩) (c2 : PySem.W.codeIn K cd2 "is_within" = true) (k2 : PySem.W.keepIn K (.ref f2) = true)
    (a3 : PySem.W.nsIn K mainGlobals "is_plain" = some (some (.ref f3))) (l3 : K.lookup f3 = some ⟨oc3, od3, .func (PySem.W.fnOf "is_plain" "is_plain" (defArgs s_is_plain) (defBody s_is_plain) (defScope s_is_plain) .none kV3 dc3 pm3 an3 cd3 ct3), sl3⟩) (c3 : PySem.W.codeIn K cd3 "is_plain" = true) (k3 : PySem.W.keepIn K (.ref f3) = true)
    (a4 : PySem.W.nsIn K mainGlobals "is_clip" = some (some (.ref f4))) (l4 : K.lookup f4 = some ⟨oc4, od4, .func (PySem.W.fnOf "is_clip" "is_clip" (defArgs s_is_clip) (defBody s_is_clip) (defScope s_is_clip) .none kV4 dc4 pm4 an4 cd4 ct4), sl4⟩) (c4 : PySem.W.codeIn K cd4 "is_clip" = true) (k4 : PySem.W.keepIn K (.ref f4) = true)
    (a5 : PySem.W.nsIn K mainGlobals "is_word" = some (some (.ref f5))) (l5 : K.lookup f5 = some ⟨oc5, od5, .func (PySem.W.fnOf "is_word" "is_word" (defArgs s_is_word) (defBody s_is_word) (defScope s_is_word) .none kV5 dc5 pm5 an5 cd5 ct5), sl5⟩) (c5 : PySem.W.codeIn K cd5 "is_word" = true) (k5 : PySem.W.keepIn K (.ref f5) = true)
    (a6 : PySem.W.nsIn K mainGlobals "is_key" = some (some (.ref f6))) (l6 : K.lookup f6 = some ⟨oc6, od6, .func (PySem.W.fnOf "is_key" "is_key" (defArgs s_is_key) (defBody s_is_key) (defScope s_is_key) .none kV6 dc6 pm6 an6 cd6 ct6), sl6⟩) (c6 : PySem.W.codeIn K cd6 "is_key" = true) (k6 : PySem.W.keepIn K (.ref f6) = true)
    (a7 : PySem.W.nsIn K mainGlobals "key_weight" = some (some (.ref f7))) (l7 : K.lookup f7 = some ⟨oc7, od7, .func (PySem.W.fnOf "key_weight" "key_weight" (defArgs s_key_weight) (defBody s_key_weight) (defScope s_key_weight) .none kV7 dc7 pm7 an7 cd7 ct7), sl7⟩) (c7 : PySem.W.codeIn K cd7 "key_weight" = true) (k7 : PySem.W.keepIn K (.ref f7) = true)
    (a8 : PySem.W.nsIn K mainGlobals "weigh" = some (some (.ref f8))) (l8 : K.lookup f8 = some ⟨oc8, od8, .func (PySem.W.fnOf "weigh" "weigh" (defArgs s_weigh) (defBody s_weigh) (defScope s_weigh) .none kV8 dc8 pm8 an8 cd8 ct8), sl8⟩) (c8 : PySem.W.codeIn K cd8 "weigh" = true) (k8 : PySem.W.keepIn K (.ref f8) = true)
    (a9 : PySem.W.nsIn K mainGlobals "is_hand" = some (some (.ref f9))) (l9 : K.lookup f9 = some ⟨oc9, od9, .func (PySem.W.fnOf "is_hand" "is_hand" (defArgs s_is_hand) (defBody s_is_hand) (defScope s_is_hand) .none kV9 dc9 pm9 an9 cd9 ct9), sl9⟩) (c9 : PySem.W.codeIn K cd9 "is_hand" = true) (k9 : PySem.W.keepIn K (.ref f9) = true)
    (a10 : PySem.W.nsIn K mainGlobals "check_hand" = some (some (.ref f10))) (l10 : K.lookup f10 = some ⟨oc10, od10, .func (PySem.W.fnOf "check_hand" "check_hand" (defArgs s_check_hand) (defBody s_check_hand) (defScope s_check_hand) .none kV10 dc10 pm10 an10 cd10 ct10), sl10⟩) (c10 : PySem.W.codeIn K cd10 "check_hand" = true) (k10 : PySem.W.keepIn K (.ref f10) = true)
    (a11 : PySem.W.nsIn K mainGlobals "is_sheet" = some (some (.ref f11))) (l11 : K.lookup f11 = some ⟨oc11, od11, .func (PySem.W.fnOf "is_sheet" "is_sheet" (defArgs s_is_sheet) (defBody s_is_sheet) (defScope s_is_sheet) .none kV11 dc11 pm11 an11 cd11 ct11), sl11⟩) (c11 : PySem.W.codeIn K cd11 "is_sheet" = true) (k11 : PySem.W.keepIn K (.ref f11) = true)
    (a12 : PySem.W.nsIn K mainGlobals "check_sheet" = some (some (.ref f12))) (l12 : K.lookup f12 = some ⟨oc12, od12, .func (PySem.W.fnOf "check_sheet" "check_sheet" (defArgs s_check_sheet) (defBody s_check_sheet) (defScope s_check_sheet) .none kV12 dc12 pm12 an12 cd12 ct12), sl12⟩) (c12 : PySem.W.codeIn K cd12 "check_sheet" = true) (k12 : PySem.W.keepIn K (.ref f12) = true)
    (a13 : PySem.W.nsIn K mainGlobals "nearest" = some (some (.ref f13))) (l13 : K.lookup f13 = some ⟨oc13, od13, .func (PySem.W.fnOf "nearest" "nearest" (defArgs s_nearest) (defBody s_nearest) (defScope s_nearest) .none kV13 dc13 pm13 an13 cd13 ct13), sl13⟩) (c13 : PySem.W.codeIn K cd13 "nearest" = true) (k13 : PySem.W.keepIn K (.ref f13) = true)
    (a14 : PySem.W.nsIn K mainGlobals "take" = some (some (.ref f14))) (l14 : K.lookup f14 = some ⟨oc14, od14, .func (PySem.W.fnOf "take" "take" (defArgs s_take) (defBody s_take) (defScope s_take) .none kV14 dc14 pm14 an14 cd14 ct14), sl14⟩) (c14 : PySem.W.codeIn K cd14 "take" = true) (k14 : PySem.W.keepIn K (.ref f14) = true)
    (a15 : PySem.W.nsIn K mainGlobals "do_key" = some (some (.ref f15))) (l15 : K.lookup f15 = some ⟨oc15, od15, .func (PySem.W.fnOf "do_key" "do_key" (defArgs s_do_key) (defBody s_do_key) (defScope s_do_key) .none kV15 dc15 pm15 an15 cd15 ct15), sl15⟩) (c15 : PySem.W.codeIn K cd15 "do_key" = true) (k15 : PySem.W.keepIn K (.ref f15) = true)
    (a16 : PySem.W.nsIn K mainGlobals "press" = some (some (.ref f16))) (l16 : K.lookup f16 = some ⟨oc16, od16, .func (PySem.W.fnOf "press" "press" (defArgs s_press) (defBody s_press) (defScope s_press) .none (.ref D16) dc16 pm16 an16 cd16 ct16), sl16⟩) (c16 : PySem.W.codeIn K cd16 "press" = true) (k16 : PySem.W.keepIn K (.ref f16) = true)
    (e16 : PySem.W.nsIn K D16 "times" = some (some (.int 1 tk16)))
    (a17 : PySem.W.nsIn K mainGlobals "go" = some (some (.ref f17))) (l17 : K.lookup f17 = some ⟨oc17, od17, .func (PySem.W.fnOf "go" "go" (defArgs s_go) (defBody s_go) (defScope s_go) .none kV17 dc17 pm17 an17 cd17 ct17), sl17⟩) (c17 : PySem.W.codeIn K cd17 "go" = true) (k17 : PySem.W.keepIn K (.ref f17) = true)
    (a18 : PySem.W.nsIn K mainGlobals "needed" = some (some (.ref f18))) (l18 : K.lookup f18 = some ⟨oc18, od18, .func (PySem.W.fnOf "needed" "needed" (defArgs s_needed) (defBody s_needed) (defScope s_needed) .none kV18 dc18 pm18 an18 cd18 ct18), sl18⟩) (c18 : PySem.W.codeIn K cd18 "needed" = true) (k18 : PySem.W.keepIn K (.ref f18) = true)
    (a19 : PySem.W.nsIn K mainGlobals "row_of" = some (some (.ref f19))) (l19 : K.lookup f19 = some ⟨oc19, od19, .func (PySem.W.fnOf "row_of" "row_of" (defArgs s_row_of) (defBody s_row_of) (defScope s_row_of) .none kV19 dc19 pm19 an19 cd19 ct19), sl19⟩) (c19 : PySem.W.codeIn K cd19 "row_of" = true) (k19 : PySem.W.keepIn K (.ref f19) = true)
    (a20 : PySem.W.nsIn K mainGlobals "sourced" = some (some (.ref f20))) (l20 : K.lookup f20 = some ⟨oc20, od20, .func (PySem.W.fnOf "sourced" "sourced" (defArgs s_sourced) (defBody s_sourced) (defScope s_sourced) .none kV20 dc20 pm20 an20 cd20 ct20), sl20⟩) (c20 : PySem.W.codeIn K cd20 "sourced" = true) (k20 : PySem.W.keepIn K (.ref f20) = true)
    (a21 : PySem.W.nsIn K mainGlobals "trace" = some (some (.ref f21))) (l21 : K.lookup f21 = some ⟨oc21, od21, .func (PySem.W.fnOf "trace" "trace" (defArgs s_trace) (defBody s_trace) (defScope s_trace) .none kV21 dc21 pm21 an21 cd21 ct21), sl21⟩) (c21 : PySem.W.codeIn K cd21 "trace" = true) (k21 : PySem.W.keepIn K (.ref f21) = true)
    (a22 : PySem.W.nsIn K mainGlobals "source_in" = some (some (.ref f22))) (l22 : K.lookup f22 = some ⟨oc22, od22, .func (PySem.W.fnOf "source_in" "source_in" (defArgs s_source_in) (defBody s_source_in) (defScope s_source_in) .none kV22 dc22 pm22 an22 cd22 ct22), sl22⟩) (c22 : PySem.W.codeIn K cd22 "source_in" = true) (k22 : PySem.W.keepIn K (.ref f22) = true)
    (a23 : PySem.W.nsIn K mainGlobals "far_held" = some (some (.ref f23))) (l23 : K.lookup f23 = some ⟨oc23, od23, .func (PySem.W.fnOf "far_held" "far_held" (defArgs s_far_held) (defBody s_far_held) (defScope s_far_held) .none kV23 dc23 pm23 an23 cd23 ct23), sl23⟩) (c23 : PySem.W.codeIn K cd23 "far_held" = true) (k23 : PySem.W.keepIn K (.ref f23) = true)
    (a24 : PySem.W.findIn K (.ref C_Far) "__init__" = some (some (.ref f24))) (i24 : PySem.W.isFn K (.ref f24) = true) (l24 : K.lookup f24 = some ⟨oc24, od24, .func (PySem.W.fnOf "__init__" "Far.__init__" (defArgs s_Far___init__) (defBody s_Far___init__) (defScope s_Far___init__) .none kV24 dc24 pm24 an24 cd24 ct24), sl24⟩) (c24 : PySem.W.codeIn K cd24 "Far.__init__" = true) (k24 : PySem.W.keepIn K (.ref f24) = true)
    (a25 : PySem.W.findIn K (.ref C_Far) "source" = some (some (.ref f25))) (i25 : PySem.W.isFn K (.ref f25) = true) (l25 : K.lookup f25 = some ⟨oc25, od25, .func (PySem.W.fnOf "source" "Far.source" (defArgs s_Far_source) (defBody s_Far_source) (defScope s_Far_source) .none kV25 dc25 pm25 an25 cd25 ct25), sl25⟩) (c25 : PySem.W.codeIn K cd25 "Far.source" = true) (k25 : PySem.W.keepIn K (.ref f25) = true)
    (a26 : PySem.W.findIn K (.ref C_Far) "is_near" = some (some (.ref f26))) (i26 : PySem.W.isFn K (.ref f26) = true) (l26 : K.lookup f26 = some ⟨oc26, od26, .func (PySem.W.fnOf "is_near" "Far.is_near" (defArgs s_Far_is_near) (defBody s_Far_is_near) (defScope s_Far_is_near) .none kV26 dc26 pm26 an26 cd26 ct26), sl26⟩) (c26 : PySem.W.codeIn K cd26 "Far.is_near" = true) (k26 : PySem.W.keepIn K (.ref f26) = true)
    (a27 : PySem.W.findIn K (.ref C_Far) "ring_at" = some (some (.ref f27))) (i27 : PySem.W.isFn K (.ref f27) = true) (l27 : K.lookup f27 = some ⟨oc27, od27, .func (PySem.W.fnOf "ring_at" "Far.ring_at" (defArgs s_Far_ring_at) (defBody s_Far_ring_at) (defScope s_Far_ring_at) .none kV27 dc27 pm27 an27 cd27 ct27), sl27⟩) (c27 : PySem.W.codeIn K cd27 "Far.ring_at" = true) (k27 : PySem.W.keepIn K (.ref f27) = true)
    (a28 : PySem.W.findIn K (.ref C_Far) "print_at" = some (some (.ref f28))) (i28 : PySem.W.isFn K (.ref f28) = true) (l28 : K.lookup f28 = some ⟨oc28, od28, .func (PySem.W.fnOf "print_at" "Far.print_at" (defArgs s_Far_print_at) (defBody s_Far_print_at) (defScope s_Far_print_at) .none kV28 dc28 pm28 an28 cd28 ct28), sl28⟩) (c28 : PySem.W.codeIn K cd28 "Far.print_at" = true) (k28 : PySem.W.keepIn K (.ref f28) = true)
    (a29 : PySem.W.findIn K (.ref C_Far) "prints" = some (some (.ref f29))) (i29 : PySem.W.isFn K (.ref f29) = true) (l29 : K.lookup f29 = some ⟨oc29, od29, .func (PySem.W.fnOf "prints" "Far.prints" (defArgs s_Far_prints) (defBody s_Far_prints) (defScope s_Far_prints) .none kV29 dc29 pm29 an29 cd29 ct29), sl29⟩) (c29 : PySem.W.codeIn K cd29 "Far.prints" = true) (k29 : PySem.W.keepIn K (.ref f29) = true)
    (a30 : PySem.W.nsIn K mainGlobals "prints" = some (some (.ref f30))) (l30 : K.lookup f30 = some ⟨oc30, od30, .func (PySem.W.fnOf "prints" "prints" (defArgs s_prints) (defBody s_prints) (defScope s_prints) .none kV30 dc30 pm30 an30 cd30 ct30), sl30⟩) (c30 : PySem.W.codeIn K cd30 "prints" = true) (k30 : PySem.W.keepIn K (.ref f30) = true)
    (a31 : PySem.W.nsIn K mainGlobals "round_of_prints" = some (some (.ref f31))) (l31 : K.lookup f31 = some ⟨oc31, od31, .func (PySem.W.fnOf "round_of_prints" "round_of_prints" (defArgs s_round_of_prints) (defBody s_round_of_prints) (defScope s_round_of_prints) .none kV31 dc31 pm31 an31 cd31 ct31), sl31⟩) (c31 : PySem.W.codeIn K cd31 "round_of_prints" = true) (k31 : PySem.W.keepIn K (.ref f31) = true)
    (a32 : PySem.W.nsIn K mainGlobals "_law_spring" = some (some (.ref f32))) (l32 : K.lookup f32 = some ⟨oc32, od32, .func (PySem.W.fnOf "_law_spring" "_law_spring" (defArgs s__law_spring) (defBody s__law_spring) (defScope s__law_spring) .none kV32 dc32 pm32 an32 cd32 ct32), sl32⟩) (c32 : PySem.W.codeIn K cd32 "_law_spring" = true) (k32 : PySem.W.keepIn K (.ref f32) = true)
    (a33 : PySem.W.nsIn K mainGlobals "_law_draw" = some (some (.ref f33))) (l33 : K.lookup f33 = some ⟨oc33, od33, .func (PySem.W.fnOf "_law_draw" "_law_draw" (defArgs s__law_draw) (defBody s__law_draw) (defScope s__law_draw) .none kV33 dc33 pm33 an33 cd33 ct33), sl33⟩) (c33 : PySem.W.codeIn K cd33 "_law_draw" = true) (k33 : PySem.W.keepIn K (.ref f33) = true)
    (a34 : PySem.W.nsIn K mainGlobals "_law_word" = some (some (.ref f34))) (l34 : K.lookup f34 = some ⟨oc34, od34, .func (PySem.W.fnOf "_law_word" "_law_word" (defArgs s__law_word) (defBody s__law_word) (defScope s__law_word) .none kV34 dc34 pm34 an34 cd34 ct34), sl34⟩) (c34 : PySem.W.codeIn K cd34 "_law_word" = true) (k34 : PySem.W.keepIn K (.ref f34) = true)
    (a35 : PySem.W.nsIn K mainGlobals "_law_hand" = some (some (.ref f35))) (l35 : K.lookup f35 = some ⟨oc35, od35, .func (PySem.W.fnOf "_law_hand" "_law_hand" (defArgs s__law_hand) (defBody s__law_hand) (defScope s__law_hand) .none kV35 dc35 pm35 an35 cd35 ct35), sl35⟩) (c35 : PySem.W.codeIn K cd35 "_law_hand" = true) (k35 : PySem.W.keepIn K (.ref f35) = true)
    (a36 : PySem.W.nsIn K mainGlobals "_law_table" = some (some (.ref f36))) (l36 : K.lookup f36 = some ⟨oc36, od36, .func (PySem.W.fnOf "_law_table" "_law_table" (defArgs s__law_table) (defBody s__law_table) (defScope s__law_table) .none kV36 dc36 pm36 an36 cd36 ct36), sl36⟩) (c36 : PySem.W.codeIn K cd36 "_law_table" = true) (k36 : PySem.W.keepIn K (.ref f36) = true)
    (a37 : PySem.W.nsIn K mainGlobals "_law_is_cut" = some (some (.ref f37))) (l37 : K.lookup f37 = some ⟨oc37, od37, .func (PySem.W.fnOf "_law_is_cut" "_law_is_cut" (defArgs s__law_is_cut) (defBody s__law_is_cut) (defScope s__law_is_cut) .none kV37 dc37 pm37 an37 cd37 ct37), sl37⟩) (c37 : PySem.W.codeIn K cd37 "_law_is_cut" = true) (k37 : PySem.W.keepIn K (.ref f37) = true)
    (a38 : PySem.W.nsIn K mainGlobals "_law_far" = some (some (.ref f38))) (l38 : K.lookup f38 = some ⟨oc38, od38, .func (PySem.W.fnOf "_law_far" "_law_far" (defArgs s__law_far) (defBody s__law_far) (defScope s__law_far) .none kV38 dc38 pm38 an38 cd38 ct38), sl38⟩) (c38 : PySem.W.codeIn K cd38 "_law_far" = true) (k38 : PySem.W.keepIn K (.ref f38) = true)
    (a39 : PySem.W.nsIn K mainGlobals "_law_row" = some (some (.ref f39))) (l39 : K.lookup f39 = some ⟨oc39, od39, .func (PySem.W.fnOf "_law_row" "_law_row" (defArgs s__law_row) (defBody s__law_row) (defScope s__law_row) .none kV39 dc39 pm39 an39 cd39 ct39), sl39⟩) (c39 : PySem.W.codeIn K cd39 "_law_row" = true) (k39 : PySem.W.keepIn K (.ref f39) = true)
    (a40 : PySem.W.nsIn K mainGlobals "_law_turn" = some (some (.ref f40))) (l40 : K.lookup f40 = some ⟨oc40, od40, .func (PySem.W.fnOf "_law_turn" "_law_turn" (defArgs s__law_turn) (defBody s__law_turn) (defScope s__law_turn) .none kV40 dc40 pm40 an40 cd40 ct40), sl40⟩) (c40 : PySem.W.codeIn K cd40 "_law_turn" = true) (k40 : PySem.W.keepIn K (.ref f40) = true)
    (a41 : PySem.W.nsIn K mainGlobals "_law_keeper" = some (some (.ref f41))) (l41 : K.lookup f41 = some ⟨oc41, od41, .func (PySem.W.fnOf "_law_keeper" "_law_keeper" (defArgs s__law_keeper) (defBody s__law_keeper) (defScope s__law_keeper) .none kV41 dc41 pm41 an41 cd41 ct41), sl41⟩) (c41 : PySem.W.codeIn K cd41 "_law_keeper" = true) (k41 : PySem.W.keepIn K (.ref f41) = true)
    (a42 : PySem.W.nsIn K mainGlobals "_law_any" = some (some (.ref f42))) (l42 : K.lookup f42 = some ⟨oc42, od42, .func (PySem.W.fnOf "_law_any" "_law_any" (defArgs s__law_any) (defBody s__law_any) (defScope s__law_any) .none kV42 dc42 pm42 an42 cd42 ct42), sl42⟩) (c42 : PySem.W.codeIn K cd42 "_law_any" = true) (k42 : PySem.W.keepIn K (.ref f42) = true)
    (a43 : PySem.W.nsIn K mainGlobals "_law_right" = some (some (.ref f43))) (l43 : K.lookup f43 = some ⟨oc43, od43, .func (PySem.W.fnOf "_law_right" "_law_right" (defArgs s__law_right) (defBody s__law_right) (defScope s__law_right) .none kV43 dc43 pm43 an43 cd43 ct43), sl43⟩) (c43 : PySem.W.codeIn K cd43 "_law_right" = true) (k43 : PySem.W.keepIn K (.ref f43) = true)
    (a44 : PySem.W.nsIn K mainGlobals "law" = some (some (.ref f44))) (l44 : K.lookup f44 = some ⟨oc44, od44, .func (PySem.W.fnOf "law" "law" (defArgs s_law) (defBody s_law) (defScope s_law) .none kV44 dc44 pm44 an44 cd44 ct44), sl44⟩) (c44 : PySem.W.codeIn K cd44 "law" = true) (k44 : PySem.W.keepIn K (.ref f44) = true)
    (z_abs : PySem.W.nsIn K mainGlobals "abs" = some none)
    (z_all : PySem.W.nsIn K mainGlobals "all" = some none)
    (z_enumerate : PySem.W.nsIn K mainGlobals "enumerate" = some none)
    (z_int : PySem.W.nsIn K mainGlobals "int" = some none)
    (z_len : PySem.W.nsIn K mainGlobals "len" = some none)
    (z_list : PySem.W.nsIn K mainGlobals "list" = some none)
    (z_max : PySem.W.nsIn K mainGlobals "max" = some none)
    (z_min : PySem.W.nsIn K mainGlobals "min" = some none)
    (z_range : PySem.W.nsIn K mainGlobals "range" = some none)
    (z_str : PySem.W.nsIn K mainGlobals "str" = some none)
    (z_sum : PySem.W.nsIn K mainGlobals "sum" = some none)
    (z_tuple : PySem.W.nsIn K mainGlobals "tuple" = some none)
    (z_type : PySem.W.nsIn K mainGlobals "type" = some none)
    (z_lcm : PySem.W.nsIn K mainGlobals "lcm" = some (some (.builtin "math.lcm")))
    (v_ALPHABET : PySem.W.nsIn K mainGlobals "ALPHABET" = some (some (.str "abcdefghijklmnopqrstuvwxyz" t_ALPHABET)))
    (v_HEAVIEST : PySem.W.nsIn K mainGlobals "HEAVIEST" = some (some (.int 60 t_HEAVIEST)))
    (v_LONGEST_WORD : PySem.W.nsIn K mainGlobals "LONGEST_WORD" = some (some (.int 60 t_LONGEST_WORD)))
    (v_MOST_TIMES : PySem.W.nsIn K mainGlobals "MOST_TIMES" = some (some (.int 300 t_MOST_TIMES)))
    (v_NUMBERS : PySem.W.nsIn K mainGlobals "NUMBERS" = some (some (.ref d_NUMBERS))) (l_NUMBERS : K.lookup d_NUMBERS = some ⟨.type "dict", none, .dict es_NUMBERS n_NUMBERS, #[]⟩) (k_NUMBERS : PySem.W.KeysLit w.params es_NUMBERS.toList) (b_NUMBERS : (d_NUMBERS == sysModules) = false) (e_NUMBERS : es_NUMBERS.toList.map dti = ([("left", 0), ("right", 1), ("clip", 2)] : List (Str × Int)).map some)
    (v_SIDES : PySem.W.nsIn K mainGlobals "SIDES" = some (some (.ref d_SIDES))) (l_SIDES : K.lookup d_SIDES = some ⟨.type "dict", none, .dict es_SIDES n_SIDES, #[]⟩) (k_SIDES : PySem.W.KeysLit w.params es_SIDES.toList) (b_SIDES : (d_SIDES == sysModules) = false) (e_SIDES : es_SIDES.toList.map dtx = ([("left", "left"), ("rub", "left"), ("right", "right"), ("strike", "right"), ("copy", "right"), ("cut", "right")] : List (Str × Str)).map some) :
    ∃ fd : FuncData, (∀ (s : Shared) (v : Value), BindsTo s fd ⟨[v], []⟩ [("script", v)]) ∧ ∀ base : Heap, K.In base → base.Ns mainGlobals mg → Mods base → FnG l.prog w K mg base L2.CX0 9 fa fd ["script"] (spLaw K) := by
  have e := hfa.symm.trans (PySem.W.mg_of X G a44)
  cases e
  have F0 := fun_mk (st := s_is_row) l0 c0 k0
  have F1 := fun_mk (st := s_is_whole) l1 c1 k1
  have F2 := fun_mk (st := s_is_within) l2 c2 k2
  have F3 := fun_mk (st := s_is_plain) l3 c3 k3
  have F4 := fun_mk (st := s_is_clip) l4 c4 k4
  have F5 := fun_mk (st := s_is_word) l5 c5 k5
  have F6 := fun_mk (st := s_is_key) l6 c6 k6
  have F7 := fun_mk (st := s_key_weight) l7 c7 k7
  have F8 := fun_mk (st := s_weigh) l8 c8 k8
  have F9 := fun_mk (st := s_is_hand) l9 c9 k9
  have F10 := fun_mk (st := s_check_hand) l10 c10 k10
  have F11 := fun_mk (st := s_is_sheet) l11 c11 k11
  have F12 := fun_mk (st := s_check_sheet) l12 c12 k12
  have F13 := fun_mk (st := s_nearest) l13 c13 k13
  have F14 := fun_mk (st := s_take) l14 c14 k14
  have F15 := fun_mk (st := s_do_key) l15 c15 k15
  have F16 := fun_mk (st := s_press) l16 c16 k16
  have G16 : FunD K "press" "press" (defArgs s_press) (defBody s_press) (defScope s_press) [] [("times", .int 1)] f16 _ := ⟨⟨_, _, _, _, _, _, _, _, _, _, rfl, l16, c16, .inl ⟨rfl, rfl⟩, .inr ⟨D16, rfl, fun q hq => by rw [List.mem_singleton.mp hq]; exact ⟨_, e16, _, rfl⟩⟩⟩, k16⟩
  obtain ⟨ds16, vd16, bd16⟩ := bd_press G16
  have F17 := fun_mk (st := s_go) l17 c17 k17
  have F18 := fun_mk (st := s_needed) l18 c18 k18
  have F19 := fun_mk (st := s_row_of) l19 c19 k19
  have F20 := fun_mk (st := s_sourced) l20 c20 k20
  have F21 := fun_mk (st := s_trace) l21 c21 k21
  have F22 := fun_mk (st := s_source_in) l22 c22 k22
  have F23 := fun_mk (st := s_far_held) l23 c23 k23
  have F24 := fun_mk (st := s_Far___init__) l24 c24 k24
  have F25 := fun_mk (st := s_Far_source) l25 c25 k25
  have F26 := fun_mk (st := s_Far_is_near) l26 c26 k26
  have F27 := fun_mk (st := s_Far_ring_at) l27 c27 k27
  have F28 := fun_mk (st := s_Far_print_at) l28 c28 k28
  have F29 := fun_mk (st := s_Far_prints) l29 c29 k29
  have F30 := fun_mk (st := s_prints) l30 c30 k30
  have F31 := fun_mk (st := s_round_of_prints) l31 c31 k31
  have F32 := fun_mk (st := s__law_spring) l32 c32 k32
  have F33 := fun_mk (st := s__law_draw) l33 c33 k33
  have F34 := fun_mk (st := s__law_word) l34 c34 k34
  have F35 := fun_mk (st := s__law_hand) l35 c35 k35
  have F36 := fun_mk (st := s__law_table) l36 c36 k36
  have F37 := fun_mk (st := s__law_is_cut) l37 c37 k37
  have F38 := fun_mk (st := s__law_far) l38 c38 k38
  have F39 := fun_mk (st := s__law_row) l39 c39 k39
  have F40 := fun_mk (st := s__law_turn) l40 c40 k40
  have F41 := fun_mk (st := s__law_keeper) l41 c41 k41
  have F42 := fun_mk (st := s__law_any) l42 c42 k42
  have F43 := fun_mk (st := s__law_right) l43 c43 k43
  have F44 := fun_mk (st := s_law) l44 c44 k44
  let T : Txt K mg w := ⟨⟨C_Far, PySem.W.mg_of X G g_Far, ⟨pg_Far, hd_Far, po_Far, sa_Far⟩, mk_Far, kc_Far⟩,
    n_Far_near,
    n_Far_rows,
    ⟨f0, _, F0, PySem.W.mg_of X G a0, F0.binds (ps := ["thing"]) fun _ _ _ _ _ _ us hl => match us, hl with | [_], _ => rfl⟩,
    ⟨f1, _, F1, PySem.W.mg_of X G a1, F1.binds (ps := ["thing", "low"]) fun _ _ _ _ _ _ us hl => match us, hl with | [_, _], _ => rfl⟩,
    ⟨f2, _, F2, PySem.W.mg_of X G a2, F2.binds (ps := ["thing", "low", "high"]) fun _ _ _ _ _ _ us hl => match us, hl with | [_, _, _], _ => rfl⟩,
    ⟨f3, _, F3, PySem.W.mg_of X G a3, F3.binds (ps := ["thing"]) fun _ _ _ _ _ _ us hl => match us, hl with | [_], _ => rfl⟩,
    ⟨f4, _, F4, PySem.W.mg_of X G a4, F4.binds (ps := ["thing"]) fun _ _ _ _ _ _ us hl => match us, hl with | [_], _ => rfl⟩,
    ⟨f5, _, F5, PySem.W.mg_of X G a5, F5.binds (ps := ["thing"]) fun _ _ _ _ _ _ us hl => match us, hl with | [_], _ => rfl⟩,
    ⟨f6, _, F6, PySem.W.mg_of X G a6, F6.binds (ps := ["thing"]) fun _ _ _ _ _ _ us hl => match us, hl with | [_], _ => rfl⟩,
    ⟨f7, _, F7, PySem.W.mg_of X G a7, F7.binds (ps := ["key"]) fun _ _ _ _ _ _ us hl => match us, hl with | [_], _ => rfl⟩,
    ⟨f8, _, F8, PySem.W.mg_of X G a8, F8.binds (ps := ["keys"]) fun _ _ _ _ _ _ us hl => match us, hl with | [_], _ => rfl⟩,
    ⟨f9, _, F9, PySem.W.mg_of X G a9, F9.binds (ps := ["thing"]) fun _ _ _ _ _ _ us hl => match us, hl with | [_], _ => rfl⟩,
    ⟨f10, _, F10, PySem.W.mg_of X G a10, F10.binds (ps := ["thing"]) fun _ _ _ _ _ _ us hl => match us, hl with | [_], _ => rfl⟩,
    ⟨f11, _, F11, PySem.W.mg_of X G a11, F11.binds (ps := ["thing"]) fun _ _ _ _ _ _ us hl => match us, hl with | [_], _ => rfl⟩,
    ⟨f12, _, F12, PySem.W.mg_of X G a12, F12.binds (ps := ["thing"]) fun _ _ _ _ _ _ us hl => match us, hl with | [_], _ => rfl⟩,
    ⟨f13, _, F13, PySem.W.mg_of X G a13, F13.binds (ps := ["side", "many"]) fun _ _ _ _ _ _ us hl => match us, hl with | [_, _], _ => rfl⟩,
    ⟨f14, _, F14, PySem.W.mg_of X G a14, F14.binds (ps := ["side", "many"]) fun _ _ _ _ _ _ us hl => match us, hl with | [_, _], _ => rfl⟩,
    ⟨f15, _, F15, PySem.W.mg_of X G a15, F15.binds (ps := ["key", "left", "right", "held"]) fun _ _ _ _ _ _ us hl => match us, hl with | [_, _, _, _], _ => rfl⟩,
    ⟨f16, _, F16, PySem.W.mg_of X G a16, ds16, vd16, bd16, kb_press G16⟩,
    ⟨f17, _, F17, PySem.W.mg_of X G a17, F17.binds (ps := ["key", "lengths"]) fun _ _ _ _ _ _ us hl => match us, hl with | [_, _], _ => rfl⟩,
    ⟨f18, _, F18, PySem.W.mg_of X G a18, F18.binds (ps := ["hand", "side", "lengths"]) fun _ _ _ _ _ _ us hl => match us, hl with | [_, _, _], _ => rfl⟩,
    ⟨f19, _, F19, PySem.W.mg_of X G a19, F19.binds (ps := ["side", "many"]) fun _ _ _ _ _ _ us hl => match us, hl with | [_, _], _ => rfl⟩,
    ⟨f20, _, F20, PySem.W.mg_of X G a20, F20.binds (ps := ["hand"]) fun _ _ _ _ _ _ us hl => match us, hl with | [_], _ => rfl⟩,
    ⟨f21, _, F21, PySem.W.mg_of X G a21, F21.binds (ps := ["keys", "lengths"]) fun _ _ _ _ _ _ us hl => match us, hl with | [_, _], _ => rfl⟩,
    ⟨f22, _, F22, PySem.W.mg_of X G a22, F22.binds (ps := ["rows", "near", "spot"]) fun _ _ _ _ _ _ us hl => match us, hl with | [_, _, _], _ => rfl⟩,
    ⟨f23, _, F23, PySem.W.mg_of X G a23, F23.binds (ps := ["hand"]) fun _ _ _ _ _ _ us hl => match us, hl with | [_], _ => rfl⟩,
    ⟨f24, _, F24, ⟨a24, i24, k24⟩, F24.binds (ps := ["self", "hand"]) fun _ _ _ _ _ _ us hl => match us, hl with | [_, _], _ => rfl⟩,
    ⟨f25, _, F25, ⟨a25, i25, k25⟩, F25.binds (ps := ["self", "spot"]) fun _ _ _ _ _ _ us hl => match us, hl with | [_, _], _ => rfl⟩,
    ⟨f26, _, F26, ⟨a26, i26, k26⟩, F26.binds (ps := ["self", "source"]) fun _ _ _ _ _ _ us hl => match us, hl with | [_, _], _ => rfl⟩,
    ⟨f27, _, F27, ⟨a27, i27, k27⟩, F27.binds (ps := ["self", "spot"]) fun _ _ _ _ _ _ us hl => match us, hl with | [_, _], _ => rfl⟩,
    ⟨f28, _, F28, ⟨a28, i28, k28⟩, F28.binds (ps := ["self", "spot"]) fun _ _ _ _ _ _ us hl => match us, hl with | [_, _], _ => rfl⟩,
    ⟨f29, _, F29, ⟨a29, i29, k29⟩, F29.binds (ps := ["self"]) fun _ _ _ _ _ _ us hl => match us, hl with | [_], _ => rfl⟩,
    ⟨f30, _, F30, PySem.W.mg_of X G a30, F30.binds (ps := ["hand"]) fun _ _ _ _ _ _ us hl => match us, hl with | [_], _ => rfl⟩,
    ⟨f31, _, F31, PySem.W.mg_of X G a31, F31.binds (ps := ["hand"]) fun _ _ _ _ _ _ us hl => match us, hl with | [_], _ => rfl⟩,
    ⟨f32, _, F32, PySem.W.mg_of X G a32, F32.binds (ps := ["script"]) fun _ _ _ _ _ _ us hl => match us, hl with | [_], _ => rfl⟩,
    ⟨f33, _, F33, PySem.W.mg_of X G a33, F33.binds (ps := ["spring", "many"]) fun _ _ _ _ _ _ us hl => match us, hl with | [_, _], _ => rfl⟩,
    ⟨f34, _, F34, PySem.W.mg_of X G a34, F34.binds (ps := ["spring", "most"]) fun _ _ _ _ _ _ us hl => match us, hl with | [_, _], _ => rfl⟩,
    ⟨f35, _, F35, PySem.W.mg_of X G a35, F35.binds (ps := ["spring", "most", "wide"]) fun _ _ _ _ _ _ us hl => match us, hl with | [_, _, _], _ => rfl⟩,
    ⟨f36, _, F36, PySem.W.mg_of X G a36, F36.binds (ps := ["hand", "left", "right", "held"]) fun _ _ _ _ _ _ us hl => match us, hl with | [_, _, _, _], _ => rfl⟩,
    ⟨f37, _, F37, PySem.W.mg_of X G a37, F37.binds (ps := ["hand", "left", "right", "held"]) fun _ _ _ _ _ _ us hl => match us, hl with | [_, _, _, _], _ => rfl⟩,
    ⟨f38, _, F38, PySem.W.mg_of X G a38, F38.binds (ps := ["hand"]) fun _ _ _ _ _ _ us hl => match us, hl with | [_], _ => rfl⟩,
    ⟨f39, _, F39, PySem.W.mg_of X G a39, F39.binds (ps := ["far", "spot"]) fun _ _ _ _ _ _ us hl => match us, hl with | [_, _], _ => rfl⟩,
    ⟨f40, _, F40, PySem.W.mg_of X G a40, F40.binds (ps := ["begun", "many"]) fun _ _ _ _ _ _ us hl => match us, hl with | [_, _], _ => rfl⟩,
    ⟨f41, _, F41, PySem.W.mg_of X G a41, F41.binds (ps := ["spring"]) fun _ _ _ _ _ _ us hl => match us, hl with | [_], _ => rfl⟩,
    ⟨f42, _, F42, PySem.W.mg_of X G a42, F42.binds (ps := ["spring", "many"]) fun _ _ _ _ _ _ us hl => match us, hl with | [_, _], _ => rfl⟩,
    ⟨f43, _, F43, PySem.W.mg_of X G a43, F43.binds (ps := ["hand", "told", "often", "sheet", "ways"]) fun _ _ _ _ _ _ us hl => match us, hl with | [_, _, _, _, _], _ => rfl⟩,
    ⟨fa, _, F44, PySem.W.mg_of X G a44, F44.binds (ps := ["script"]) fun _ _ _ _ _ _ us hl => match us, hl with | [_], _ => rfl⟩,
    PySem.W.mg_none_of X G z_abs,
    PySem.W.mg_none_of X G z_all,
    PySem.W.mg_none_of X G z_enumerate,
    PySem.W.mg_none_of X G z_int,
    PySem.W.mg_none_of X G z_len,
    PySem.W.mg_none_of X G z_list,
    PySem.W.mg_none_of X G z_max,
    PySem.W.mg_none_of X G z_min,
    PySem.W.mg_none_of X G z_range,
    PySem.W.mg_none_of X G z_str,
    PySem.W.mg_none_of X G z_sum,
    PySem.W.mg_none_of X G z_tuple,
    PySem.W.mg_none_of X G z_type,
    PySem.W.mg_of X G z_lcm,
    ⟨_, PySem.W.mg_of X G v_ALPHABET⟩,
    ⟨_, PySem.W.mg_of X G v_HEAVIEST⟩,
    ⟨_, PySem.W.mg_of X G v_LONGEST_WORD⟩,
    ⟨_, PySem.W.mg_of X G v_MOST_TIMES⟩,
    ⟨d_NUMBERS, es_NUMBERS, n_NUMBERS, PySem.W.mg_of X G v_NUMBERS, ⟨l_NUMBERS, k_NUMBERS, b_NUMBERS⟩, e_NUMBERS⟩,
    ⟨d_SIDES, es_SIDES, n_SIDES, PySem.W.mg_of X G v_SIDES, ⟨l_SIDES, k_SIDES, b_SIDES⟩, e_SIDES⟩⟩
  exact ⟨T.f_law.fd, fun s v => .of_eq rfl, fun base _ _ hm => ok_law T⟩
end BK
open PySem PySem.W PyProof.Rows
set_option maxRecDepth 100000 in
set_option maxHeartbeats 0 in
theorem PySem.Challenge.cw_blindkeys_k42_whole_prints_come_again_holds : PySem.Challenge.rw_blindkeys_k42_whole_prints_come_again.Holds := by
  w_on; o_law; k_head; (case hw => w_witness2)
  k_fill
  refine BK.walk_G (l := PySem.Challenge.rw_blindkeys_k42_whole_prints_come_again) (n := 63) (k := 9) (x := "script") (C := fun _ => L2.CX0) (sp := fun w => BK.spLaw _) rfl (by decide) (by decide +kernel) rfl ⟨rfl, by decide, by decide⟩ (fun w h Y => PySem.W.kIn_of Y) ?F (fun _ _ a ns hl _ hS => ⟨a, ns, rfl, hS, hl, fun _ => rfl⟩) (fun _ _ _ _ _ h => h)
  case F =>
    intro w mg fa h KX G hmg
    refine' BK.all_mk KX G hmg ?g_Far ?pg_Far ?hd_Far ?po_Far ?sa_Far ?mk_Far ?kc_Far ?n_Far_near ?n_Far_rows ?a0 ?l0 ?c0 ?k0 ?a1 ?l1 ?c1 ?k1 ?a2 ?l2 ?c2 ?k2 ?a3 ?l3 ?c3 ?k3 ?a4 ?l4 ?c4 ?k4 ?a5 ?l5 ?c5 ?k5 ?a6 ?l6 ?c6 ?k6 ?a7 ?l7 ?c7 ?k7 ?a8 ?l8 ?c8 ?k8 ?a9 ?l9 ?c9 ?k9 ?a10 ?l10 ?c10 ?k10 ?a11 ?l11 ?c11 ?k11 ?a12 ?l12 ?c12 ?k12 ?a13 ?l13 ?c13 ?k13 ?a14 ?l14 ?c14 ?k14 ?a15 ?l15 ?c15 ?k15 ?a16 ?l16 ?c16 ?k16 ?e16 ?a17 ?l17 ?c17 ?k17 ?a18 ?l18 ?c18 ?k18 ?a19 ?l19 ?c19 ?k19 ?a20 ?l20 ?c20 ?k20 ?a21 ?l21 ?c21 ?k21 ?a22 ?l22 ?c22 ?k22 ?a23 ?l23 ?c23 ?k23 ?a24 ?i24 ?l24 ?c24 ?k24 ?a25 ?i25 ?l25 ?c25 ?k25 ?a26 ?i26 ?l26 ?c26 ?k26 ?a27 ?i27 ?l27 ?c27 ?k27 ?a28 ?i28 ?l28 ?c28 ?k28 ?a29 ?i29 ?l29 ?c29 ?k29 ?a30 ?l30 ?c30 ?k30 ?a31 ?l31 ?c31 ?k31 ?a32 ?l32 ?c32 ?k32 ?a33 ?l33 ?c33 ?k33 ?a34 ?l34 ?c34 ?k34 ?a35 ?l35 ?c35 ?k35 ?a36 ?l36 ?c36 ?k36 ?a37 ?l37 ?c37 ?k37 ?a38 ?l38 ?c38 ?k38 ?a39 ?l39 ?c39 ?k39 ?a40 ?l40 ?c40 ?k40 ?a41 ?l41 ?c41 ?k41 ?a42 ?l42 ?c42 ?k42 ?a43 ?l43 ?c43 ?k43 ?a44 ?l44 ?c44 ?k44 ?z_abs ?z_all ?z_enumerate ?z_int ?z_len ?z_list ?z_max ?z_min ?z_range ?z_str ?z_sum ?z_tuple ?z_type ?z_lcm ?v_ALPHABET ?v_HEAVIEST ?v_LONGEST_WORD ?v_MOST_TIMES ?v_NUMBERS ?l_NUMBERS ?k_NUMBERS ?b_NUMBERS ?e_NUMBERS ?v_SIDES ?l_SIDES ?k_SIDES ?b_SIDES ?e_SIDES
    (case g_Far => k_is)
    (case pg_Far => k_is)
    (case hd_Far => k_is)
    (case po_Far => k_is)
    (case sa_Far => k_is)
    (case mk_Far => k_is)
    (case kc_Far => k_is)
    (case n_Far_near => k_is)
    (case n_Far_rows => k_is)
    (case a0 => k_is)
    (case l0 => k_is)
    (case c0 => k_is)
    (case k0 => k_is)
    (case a1 => k_is)
    (case l1 => k_is)
    (case c1 => k_is)
    (case k1 => k_is)
    (case a2 => k_is)
    (case l2 => k_is)
    (case c2 => k_is)
    (case k2 => k_is)
    (case a3 => k_is)
    (case l3 => k_is)
    (case c3 => k_is)
    (case k3 => k_is)
    (case a4 => k_is)
    (case l4 => k_is)
    (case c4 => k_is)
    (case k4 => k_is)
    (case a5 => k_is)
    (case l5 => k_is)
    (case c5 => k_is)
    (case k5 => k_is)
    (case a6 => k_is)
    (case l6 => k_is)
    (case c6 => k_is)
    (case k6 => k_is)
    (case a7 => k_is)
    (case l7 => k_is)
    (case c7 => k_is)
    (case k7 => k_is)
    (case a8 => k_is)
    (case l8 => k_is)
    (case c8 => k_is)
    (case k8 => k_is)
    (case a9 => k_is)
    (case l9 => k_is)
    (case c9 => k_is)
    (case k9 => k_is)
    (case a10 => k_is)
    (case l10 => k_is)
    (case c10 => k_is)
    (case k10 => k_is)
    (case a11 => k_is)
    (case l11 => k_is)
    (case c11 => k_is)
    (case k11 => k_is)
    (case a12 => k_is)
    (case l12 => k_is)
    (case c12 => k_is)
    (case k12 => k_is)
    (case a13 => k_is)
    (case l13 => k_is)
    (case c13 => k_is)
    (case k13 => k_is)
    (case a14 => k_is)
    (case l14 => k_is)
    (case c14 => k_is)
    (case k14 => k_is)
    (case a15 => k_is)
    (case l15 => k_is)
    (case c15 => k_is)
    (case k15 => k_is)
    (case a16 => k_is)
    (case l16 => k_is)
    (case c16 => k_is)
    (case k16 => k_is)
    (case e16 => k_is)
    (case a17 => k_is)
    (case l17 => k_is)
    (case c17 => k_is)
    (case k17 => k_is)
    (case a18 => k_is)
    (case l18 => k_is)
    (case c18 => k_is)
    (case k18 => k_is)
    (case a19 => k_is)
    (case l19 => k_is)
    (case c19 => k_is)
    (case k19 => k_is)
    (case a20 => k_is)
    (case l20 => k_is)
    (case c20 => k_is)
    (case k20 => k_is)
    (case a21 => k_is)
    (case l21 => k_is)
    (case c21 => k_is)
    (case k21 => k_is)
    (case a22 => k_is)
    (case l22 => k_is)
    (case c22 => k_is)
    (case k22 => k_is)
    (case a23 => k_is)
    (case l23 => k_is)
    (case c23 => k_is)
    (case k23 => k_is)
    (case a24 => k_is)
    (case i24 => k_is)
    (case l24 => k_is)
    (case c24 => k_is)
    (case k24 => k_is)
    (case a25 => k_is)
    (case i25 => k_is)
    (case l25 => k_is)
    (case c25 => k_is)
    (case k25 => k_is)
    (case a26 => k_is)
    (case i26 => k_is)
    (case l26 => k_is)
    (case c26 => k_is)
    (case k26 => k_is)
    (case a27 => k_is)
    (case i27 => k_is)
    (case l27 => k_is)
    (case c27 => k_is)
    (case k27 => k_is)
    (case a28 => k_is)
    (case i28 => k_is)
    (case l28 => k_is)
    (case c28 => k_is)
    (case k28 => k_is)
    (case a29 => k_is)
    (case i29 => k_is)
    (case l29 => k_is)
    (case c29 => k_is)
    (case k29 => k_is)
    (case a30 => k_is)
    (case l30 => k_is)
    (case c30 => k_is)
    (case k30 => k_is)
    (case a31 => k_is)
    (case l31 => k_is)
    (case c31 => k_is)
    (case k31 => k_is)
    (case a32 => k_is)
    (case l32 => k_is)
    (case c32 => k_is)
    (case k32 => k_is)
    (case a33 => k_is)
    (case l33 => k_is)
    (case c33 => k_is)
    (case k33 => k_is)
    (case a34 => k_is)
    (case l34 => k_is)
    (case c34 => k_is)
    (case k34 => k_is)
    (case a35 => k_is)
    (case l35 => k_is)
    (case c35 => k_is)
    (case k35 => k_is)
    (case a36 => k_is)
    (case l36 => k_is)
    (case c36 => k_is)
    (case k36 => k_is)
    (case a37 => k_is)
    (case l37 => k_is)
    (case c37 => k_is)
    (case k37 => k_is)
    (case a38 => k_is)
    (case l38 => k_is)
    (case c38 => k_is)
    (case k38 => k_is)
    (case a39 => k_is)
    (case l39 => k_is)
    (case c39 => k_is)
    (case k39 => k_is)
    (case a40 => k_is)
    (case l40 => k_is)
    (case c40 => k_is)
    (case k40 => k_is)
    (case a41 => k_is)
    (case l41 => k_is)
    (case c41 => k_is)
    (case k41 => k_is)
    (case a42 => k_is)
    (case l42 => k_is)
    (case c42 => k_is)
    (case k42 => k_is)
    (case a43 => k_is)
    (case l43 => k_is)
    (case c43 => k_is)
    (case k43 => k_is)
    (case a44 => k_is)
    (case l44 => k_is)
    (case c44 => k_is)
    (case k44 => k_is)
    (case z_abs => k_is)
    (case z_all => k_is)
    (case z_enumerate => k_is)
    (case z_int => k_is)
    (case z_len => k_is)
    (case z_list => k_is)
    (case z_max => k_is)
    (case z_min => k_is)
    (case z_range => k_is)
    (case z_str => k_is)
    (case z_sum => k_is)
    (case z_tuple => k_is)
    (case z_type => k_is)
    (case z_lcm => k_is)
    (case v_ALPHABET => k_is)
    (case v_HEAVIEST => k_is)
    (case v_LONGEST_WORD => k_is)
    (case v_MOST_TIMES => k_is)
    (case v_NUMBERS => k_is)
    (case l_NUMBERS => k_is)
    (case k_NUMBERS => k_keys)
    (case b_NUMBERS => rfl)
    (case e_NUMBERS => rfl)
    (case v_SIDES => k_is)
    (case l_SIDES => k_is)
    (case k_SIDES => k_keys)
    (case b_SIDES => rfl)
    (case e_SIDES => rfl)
