import PyProof.Rows.All
import Wide.All
import OpenK.AllK
import Wide.FinOn
import PyProof.TypeEq
import PyProof.Rows.StrMul
import PyProof.LongRange
import HandS.ForMost
import HandS.Wide
import HandS.WideBits
import HandS.More
import HandS.StrMore
import HandS.NoneIn
import HandS.Flow
import HandS.SortInts
import PyProof.ListStr
import HandS.Defaults
import HandS.Dict
import HandS.Conv
import HandS.Replace
import PyProof.ReprRoads
import PyProof.ReprBulk
import HandS.IsInst
import HandS.Codes
import HandS.Style
import HandS.ForExc
import HandS.ExcIs
import HandS.ExcValue
import HandS.CallSlots
import PySem.Challenge.RW_blindkeys_k11_hands_refused
set_option Elab.async false
set_option linter.all false
set_option maxRecDepth 100000
set_option maxHeartbeats 4000000
namespace BK
open PySem PySem.Spec PyProof.Rows L2

/-! ### more rules -/
section
variable {A : Around} {s : Shared}
theorem meta_of {n : String} (h : n ∈ ["int", "str", "bool", "NoneType", "list", "tuple", "dict"]) (s' : Shared) : s'.TypeIs (.type n) "type" := by
  simp only [List.mem_cons, List.not_mem_nil, or_false] at h
  rcases h with rfl | rfl | rfl | rfl | rfl | rfl | rfl
  · exact TypeEq.meta_int s'
  · exact TypeEq.meta_str s'
  · exact TypeEq.meta_bool s'
  · exact TypeEq.meta_NoneType s'
  · exact TypeEq.meta_list s'
  · exact TypeEq.meta_tuple s'
  · exact TypeEq.meta_dict s'
theorem eqAt_ty {a b : String} (ha : a ∈ ["int", "str", "bool", "NoneType", "list", "tuple", "dict"]) (hb : b ∈ ["int", "str", "bool", "NoneType", "list", "tuple", "dict"]) : SeqAt.EqAt A s (.type a) (.type b) (decide (a = b)) := fun prog w E Q h => by
  unfold eqBool
  refine wpAny_holding ?_
  by_cases e : a = b
  · subst e
    rw [decide_eq_true rfl] at h
    refine wpAny_ite_split (fun _ => wpAny_bind (wpAny_rule (wpAny_pure h))) (fun hab => absurd (beq_self_eq_true _) hab)
  · rw [decide_eq_false e] at h
    have hne : (Value.type a == Value.type b) = false := beq_eq_false_iff_ne.mpr fun z => e (Value.type.inj z)
    refine wpAny_ite_split (fun hab => absurd hab (by rw [hne]; exact Bool.false_ne_true)) (fun _ => ?_)
    exact wpAny_bind (TypeEq.eq_type_other (meta_of ha) (meta_of hb) hne (wpAny_truthy_bool h))
end
abbrev knownTy : List String := ["int", "str", "bool", "NoneType", "list", "tuple", "dict"]
/-- type(x) in (list, tuple) -/
def rInTy (K : PySem.W.Frag) : R2 := fun x y H Q => ∃ (a : String) (p : Addr) (ns : List String), x = .ty a ∧ y = .ref p ∧ SqT K H p (ns.map V.ty) ∧ a ∈ knownTy ∧ (∀ n ∈ ns, n ∈ knownTy) ∧ Q (.bl (decide (a ∈ ns))) H
theorem vals_ty : ∀ {ns : List String} {us : List Value}, Vals (ns.map V.ty) us → us = ns.map Value.type
  | [], _, .nil => rfl
  | n :: ns, _, .cons r t => by
    have e := vals_ty t
    cases (show _ = Value.type n from r)
    rw [e, List.map_cons]
section
variable {X : Cx}
theorem op_in_ty : OpR X (compareOp .In) (rInTy X.K) := by
  intro pins s σ H x y v u Q I rx ry h
  obtain ⟨a, p, ns, rfl, rfl, hq, ha, hn, q⟩ := h
  cases (show v = Value.type a from rx)
  cases (show u = Value.ref p from ry)
  obtain ⟨its, r, pl, hz⟩ := I.tuple hq
  have e := vals_ty r
  subst e
  refine SeqAt.in_tupleAt (fun y => match y with | .type n => decide (n = a) | _ => false) pl (fun w hw => ?_) ⟨.bl _, H, I, rfl, ?_⟩
  · simp only [List.mem_toArray, List.mem_map] at hw
    obtain ⟨n, hn1, rfl⟩ := hw
    exact eqAt_ty (hn n hn1) ha
  · have e : (((ns.map Value.type).toArray).any (fun y => match y with | .type n => decide (n = a) | _ => false)) = decide (a ∈ ns) := by
      rw [List.any_toArray, List.any_map, Bool.eq_iff_iff, List.any_eq_true, decide_eq_true_iff]
      constructor
      · rintro ⟨n, h1, h2⟩
        have : n = a := of_decide_eq_true h2
        subst this
        exact h1
      · intro h1
        exact ⟨a, h1, decide_eq_true rfl⟩
    rw [e]
    exact q
/-- text * int -/
def rMulS : R2 := fun x y H Q => ∃ z n, x = .str z ∧ y = .int n ∧ MulOk z n ∧ Q (.str (Txt.mul z n)) H
theorem op_mul_str : OpR X (binaryOp .Mult) rMulS := by
  intro pins s σ H x y v u Q I rx ry h
  obtain ⟨z, n, rfl, rfl, ok, q⟩ := h
  obtain ⟨t, rfl⟩ := rx
  obtain ⟨t', rfl⟩ := ry
  exact SB.mul ok fun t2 k => ⟨.str _, H, I.tok _, ⟨_, rfl⟩, q⟩
theorem OpR.or {f : Value → Value → Sem Value} {r r' : R2} (h : OpR X f r) (h' : OpR X f r') : OpR X f (fun x y H Q => r x y H Q ∨ r' x y H Q) := by
  intro pins s σ H x y v u Q I rx ry hh
  rcases hh with hh | hh
  · exact h pins s σ H x y v u Q I rx ry hh
  · exact h' pins s σ H x y v u Q I rx ry hh
theorem pi_or {tg it : PySem.Expr} {w1 w2 : TI} (h1 : PI X tg it w1) (h2 : PI X tg it w2) : PI X tg it (fun σ H R => w1 σ H R ∨ w2 σ H R) := ⟨fun pins s σ H R I h => by
  rcases h with h | h
  · exact h1.run pins s σ H R I h
  · exact h2.run pins s σ H R I h⟩
theorem pg_or {tg : PySem.Expr} {g1 g2 : TG} (h1 : PG X tg g1) (h2 : PG X tg g2) : PG X tg (fun v σ H Q => g1 v σ H Q ∨ g2 v σ H Q) := ⟨fun pins s σ H v u Q I r h => by
  rcases h with h | h
  · exact h1.run pins s σ H v u Q I r h
  · exact h2.run pins s σ H v u Q I r h⟩
end

/-! ### range(a, b) of any ints -/
section
theorem turn_long {P : Program} {w : World} {K : PySem.W.Frag} {tg : PySem.Expr} (it : Addr) (lo : Int) (n : Nat) : Turn P w K tg (Itr lo n) [it] it (fun i h => IsLongIter h it (lo + (i : Nat) * 1) ((n : Int) - (i : Nat)) 1) where
  mem := by simp
  obj := fun i h st b hb => by
    have e : b = it := by simpa using hb
    subst e
    exact ⟨_, st, fun v z => by
      have z' : Data.fields _ = Data.cell v := z
      cases z'⟩
  keep := fun i h h' st k => k it (by simp) _ st
  item := by
    intro X hP hw hK hc i pins s σ H E I hf st hg
    subst hP hw hK
    obtain ⟨f0, f1, f2, f3, f4, f5⟩ := hf it (by simp)
    have W := Walks.longrange (prog := X.prog) (w := X.w) (I.ok.hd hc) it lo 1 n
    refine W.item i s _ _ hg st fun v h' tk hv st' kk => ?_
    obtain ⟨t, rfl⟩ := hv
    have I1 : Inv X pins σ H { s with heap := h', toks := tk } := I.turned (fun b o hb e => kk b o (by simpa using hb) e) f0 f1 f3 f4 f5
    refine ⟨_, rfl, go_of (s := { s with heap := h', toks := tk }) (n := "longrange_iterator") st' rfl rfl (by decide) ⟨.int (lo + i), H, I1, ⟨t, ?_⟩, ⟨rfl, rfl⟩, st', fun b hb => (hf b hb).1⟩⟩
    rw [Int.mul_one]
  done := by
    intro X hP hw hK hc i pins s σ H E I hf st hg
    subst hP hw hK
    obtain ⟨f0, f1, f2, f3, f4, f5⟩ := hf it (by simp)
    exact wpAny_pyNext_long_end (I.ok.hd hc) st (by have : n ≤ i := hg; omega) fun h' eb => ⟨rfl, I.turned (t' := s.toks) (fun b o hb e => eb b o hb e) f0 f1 f3 f4 f5⟩
  self := fun _ _ _ _ _ st h => wpAny_pyIter_longiter st h
variable {X : Cx} {tg : PySem.Expr}
theorem rsize1 (lo hi : Int) : Builtin.Range.rangeSize lo hi 1 = (((hi - lo).toNat : Nat) : Int) := by
  rw [rangeSize_one]
  split <;> omega
theorem range_itL {pins : List (Addr × Obj)} {σ : L2.St} {H : Hp} {s : Shared} {R : It → Hp → Prop} {E : Value → Shared → Prop} {lo hi : Int} {t u v : Tok} {tk : Nat} (I : Inv X pins σ H s)
    (q : R (Itr lo (hi - lo).toNat) H) : wpAny (model X.prog X.w) X.A (pyIter (.ref s.heap.objs.size)) (PIE X pins σ tg R) E { s with heap := s.heap.push { cls := .type "range", data := .fields #[.int lo t, .int hi u, .int 1 v] }, toks := tk } := by
  have I1 : Inv X pins σ H { s with heap := s.heap.push { cls := .type "range", data := .fields #[.int lo t, .int hi u, .int 1 v] }, toks := tk } := I.kept fun b o e => Heap.get?_push_of_some _ e
  have e1 : lo + ((0 : Nat) : Int) * 1 = lo := by simp
  have e2 : (((hi - lo).toNat : Nat) : Int) - ((0 : Nat) : Int) = Builtin.Range.rangeSize lo hi 1 := by rw [rsize1]; omega
  have hf : ∀ b ∈ [(s.heap.push { cls := .type "range", data := .fields #[.int lo t, .int hi u, .int 1 v] }).objs.size], FpOk X pins H b := fun b hb => by
    have e : b = (s.heap.push { cls := .type "range", data := .fields #[.int lo t, .int hi u, .int 1 v] }).objs.size := by simpa using hb
    subst e
    exact I1.fpOk (Nat.le_refl _) (I1.hok.fresh (Nat.le_refl _))
  cases hs : Builtin.Range.small lo hi 1 with
  | true =>
    refine wpAny_pyIter_range (IsRange.new ..) hs ?_
    refine ⟨(s.heap.push { cls := .type "range", data := .fields #[.int lo t, .int hi u, .int 1 v] }).objs.size, [(s.heap.push { cls := .type "range", data := .fields #[.int lo t, .int hi u, .int 1 v] }).objs.size], _, _, H, rfl,
      I1.kept (t' := tk) fun b o e => Heap.get?_push_of_some _ e, turn_range _ lo (hi - lo).toNat, ?_, hf, q⟩
    show IsRangeIter _ _ (lo + ((0 : Nat) : Int) * 1) ((((hi - lo).toNat : Nat) : Int) - ((0 : Nat) : Int)) 1
    rw [e1, e2]
    exact Heap.get?_push_size _ rfl
  | false =>
    refine wpAny_pyIter_longrange (IsRange.new ..) hs ?_
    refine ⟨(s.heap.push { cls := .type "range", data := .fields #[.int lo t, .int hi u, .int 1 v] }).objs.size, [(s.heap.push { cls := .type "range", data := .fields #[.int lo t, .int hi u, .int 1 v] }).objs.size], _, _, H, rfl,
      I1.kept (t' := tk) fun b o e => Heap.get?_push_of_some _ e, turn_long _ lo (hi - lo).toNat, ?_, hf, q⟩
    show IsLongIter _ _ (lo + ((0 : Nat) : Int) * 1) ((((hi - lo).toNat : Nat) : Int) - ((0 : Nat) : Int)) 1
    rw [e1, e2]
    exact Heap.get?_push_size _ rfl
def iRng2L (ta : TA) : TI := fun σ H R => ta σ H fun vs H1 => ∃ i j : Int, vs = [.int i, .int j] ∧ R (Itr i (j - i).toNat) H1
theorem pi_range2L {a b : PySem.Expr} {ta : TA} {p pos : Pos} (hg : Gl X "range") (hm : X.mg "range" = none) (ha : PA X [a, b] ta) (hs : starEach [a, b] X.env = [(false, eval a X.env), (false, eval b X.env)] := by rfl) (hs2 : starEach [b] X.env = [(false, eval b X.env)] := by rfl) :
    PI X tg (.Call (.Name "range" p) [a, b] [] pos) (iRng2L ta) := by
  refine ⟨fun pins s σ H R I h => ?_⟩
  refine Call_ (ld_blt I hg hm boot_range (PyProof.Rows.callWith_type1 (thn (ha.run pos pins s σ H _ I h) fun us s1 ⟨vs, H1, I1, r1, q1⟩ => ?_) (by rw [hs, hs2]) (by rw [hs2]; rfl)))
  obtain ⟨i, j, e, q⟩ := q1
  subst e
  cases r1 with
  | cons r rr =>
    cases rr with
    | cons r' rr =>
      cases rr
      obtain ⟨t, rfl⟩ := r
      obtain ⟨t', rfl⟩ := r'
      exact call_range_2 (range_itL I1 q)
end

/-! ### rows: a list or a tuple -/
def Row (K : PySem.W.Frag) (H : Hp) (a : Addr) (xs : List V) : Prop := SqL K H a xs ∨ SqT K H a xs
theorem sameT {K : PySem.W.Frag} {H H' : Hp} {a : Addr} {xs : List V} (e : Same H H') (h : SqT K H a xs) : SqT K H' a xs := by
  rcases h with (h | ⟨o, h⟩) | h
  · exact .inl (.inl (e _ _ h))
  · exact .inl (.inr ⟨o, e _ _ h⟩)
  · exact .inr h
theorem Row.same {K : PySem.W.Frag} {H H' : Hp} {a : Addr} {xs : List V} (e : Same H H') (h : Row K H a xs) : Row K H' a xs := h.imp e.seq (sameT e)
theorem same_upd {H : Hp} {p : Addr} {o : HO} (h : H p = none) : Same H (upd H p o) := fun b x e => by
  rw [upd_ne (ne_of_none e h)]
  exact e
section
variable {X : Cx} {pos : Pos}
theorem call_lenA : CallR X (.builtin "len") (fun xs H Q => (∃ p ys, xs = [.ref p] ∧ (SqL X.K H p ys ∨ SqT X.K H p ys) ∧ Q (.int ys.length) H) ∨ (∃ z, xs = [.str z] ∧ z.length ≤ sizeLine ∧ Q (.int z.length) H)) := CallR.or call_len_seq call_len_str
def iSeq (K : PySem.W.Frag) (tl : TE) : TI := fun σ H R => iList K tl σ H R ∨ iTup K tl σ H R
theorem pi_seq {tg l : PySem.Expr} {tl : TE} (hl : PE X l tl) : PI X tg l (iSeq X.K tl) := pi_or (pi_list hl) (pi_tup hl)
def gSeq (K : PySem.W.Frag) (n : Nat) (t : TGs) : TG := fun v σ H Q => gTup K n t v σ H Q ∨ gUnl K n t v σ H Q
theorem pg_seq {es : List PySem.Expr} {k : Nat} {t : TGs} {n : Nat} (hc : X.calm = true) (h : PGs X es t)
    (hn : (assignEach es X.env).length = n := by rfl) (hst : (assignEach es X.env).findIdx? (·.1) = none := by rfl) : PG X (.Tuple es k pos) (gSeq X.K n t) := pg_or (pg_tup hc h hn hst) (pg_unl hc h hn hst)
end
theorem gSeq.row {K : PySem.W.Frag} {n : Nat} {t : TGs} {a : Addr} {xs : List V} {σ : L2.St} {H : Hp} {Q : L2.St → Hp → Prop} (h : Row K H a xs) (hl : xs.length = n) (q : t xs σ H Q) : gSeq K n t (.ref a) σ H Q := by
  rcases h with h | h
  · exact .inr ⟨a, xs, rfl, h, hl, q⟩
  · exact .inl ⟨a, xs, rfl, h, hl, q⟩
/-- for x in (a row that stands in slot i) -/
theorem for_row {K : PySem.W.Frag} {a : Addr} {xs : List V} {g : TG} {tb : TS} {D : Ends} {σ : L2.St} {Hb H : Hp} {j : Nat} (hv : σ[j]? = some (some (.ref a))) (hr : Row K Hb a xs) (hb : Same Hb H) (Pv : Nat → L2.St → Hp → Prop) (h0 : Pv 0 σ H) (hl : ∀ i σ H', i ≤ xs.length → Pv i σ H' → Same Hb H')
    (hs : ∀ i x σ H, xs[i]? = some x → Pv i σ H → g x σ H fun σ2 H2 => tb { D with nx := Pv (i + 1), ct := Pv (i + 1), bk := D.nx } σ2 H2) (hd : ∀ σ H, Pv xs.length σ H → D.nx σ H) :
    tFor (iSeq K (tVar j)) g tb D σ H := by
  rcases hr with hr | hr
  · exact .inl ⟨_, hv, a, rfl, ⟨_, hb.seq hr⟩, for_list (K := K) (a := a) (xs := xs) Pv h0 (fun i σ H' hi p => (hl i σ H' hi p).seq hr) hs hd⟩
  · exact .inr ⟨_, hv, a, rfl, ⟨_, sameT hb hr⟩, for_tup (K := K) (a := a) (xs := xs) Pv h0 (fun i σ H' hi p => sameT (hl i σ H' hi p) hr) hs hd⟩
/-! ### the same rules with the written part named, for use within comprehensions -/
section
variable {X : Cx} {pos : Pos} (K : PySem.W.Frag)
def rLenA (K : PySem.W.Frag) : List V → Hp → VK → Prop := fun xs H Q => (∃ p ys, xs = [.ref p] ∧ (SqL K H p ys ∨ SqT K H p ys) ∧ Q (.int ys.length) H) ∨ (∃ z, xs = [.str z] ∧ z.length ≤ sizeLine ∧ Q (.int z.length) H)
theorem ix_seqK (hK : X.K = K := by rfl) : IxR X (rIx K) := hK ▸ ix_seq
theorem call_lenK (hK : X.K = K := by rfl) : CallR X (.builtin "len") (rLenA K) := hK ▸ call_lenA
theorem pg_tupK {es : List PySem.Expr} {k : Nat} {t : TGs} {n : Nat} (hc : X.calm = true) (h : PGs X es t)
    (hn : (assignEach es X.env).length = n := by rfl) (hst : (assignEach es X.env).findIdx? (·.1) = none := by rfl) (hK : X.K = K := by rfl) : PG X (.Tuple es k pos) (gTup K n t) := hK ▸ pg_tup hc h hn hst
theorem pg_seqK {es : List PySem.Expr} {k : Nat} {t : TGs} {n : Nat} (hc : X.calm = true) (h : PGs X es t)
    (hn : (assignEach es X.env).length = n := by rfl) (hst : (assignEach es X.env).findIdx? (·.1) = none := by rfl) (hK : X.K = K := by rfl) : PG X (.Tuple es k pos) (gSeq K n t) := hK ▸ pg_seq hc h hn hst
end

/-! ### loops and comprehensions, folded -/
def ForGo (J : It) (g : TG) (tb : TS) (D : Ends) (σ : L2.St) (H : Hp) : Prop := ∃ W : Nat → Nat → L2.St → Hp → Prop, (∃ m, W 0 m σ H) ∧ ∀ i m σ H, W i m σ H →
  (J.stop i H ∧ D.nx σ H) ∨ (J.go i H ∧ ∃ N : L2.St → Hp → Prop, (∀ σ' H', N σ' H' → ∃ m', m' < m ∧ W (i + 1) m' σ' H') ∧ ∀ x H', J.yld i H x H' → g x σ H' fun σ2 H2 => tb { D with nx := N, ct := N, bk := D.nx } σ2 H2)
def LcGo (J : It) (g : TG) (tt : TT) (te : TE) (vs : List Nat) (σ : L2.St) (H1 : Hp) (D : Addr) (Q : VK) : Prop := ∃ W : Nat → Nat → Hp → Prop, (∃ m, W 0 m (upd H1 D (.lst []))) ∧ ∀ i m H, W i m H →
  (J.stop i H ∧ Q (.ref D) H) ∨ (J.go i H ∧ ∃ Nx : Hp → Prop, (∀ H', Nx H' → ∃ m', m' < m ∧ W (i + 1) m' H') ∧ ∀ x H', J.yld i H x H' → g x (wipe σ vs) H' fun σ2 H2 => wipe σ2 vs = wipe σ vs ∧ tt σ2 H2 fun b H3 =>
    if b = true then te σ2 H3 fun y H4 => ∃ acc, H4 D = some (.lst acc) ∧ acc.length < sizeLine ∧ Nx (upd H4 D (.lst (acc ++ [y]))) else Nx H3)
section
variable {K : PySem.W.Frag} {ta : TA} {tl : TE} {g : TG} {tb : TS} {D : Ends} {σ : L2.St} {H : Hp} {tt : TT} {te : TE} {vs : List Nat} {Q : VK}
theorem fr_rng1 (h : ta σ H fun us H1 => ∃ j : Int, us = [.int j] ∧ -(2 ^ 62) ≤ j ∧ j < 2 ^ 62 ∧ ForGo (Itr 0 j.toNat) g tb D σ H1) : tFor (iRng1 ta) g tb D σ H := h
theorem fr_rng2 (h : ta σ H fun us H1 => ∃ i j : Int, us = [.int i, .int j] ∧ (-(2 ^ 62) ≤ i ∧ i < 2 ^ 62 ∧ -(2 ^ 62) ≤ j ∧ j < 2 ^ 62) ∧ ForGo (Itr i (j - i).toNat) g tb D σ H1) : tFor (iRng2 ta) g tb D σ H := h
theorem fr_rng2L (h : ta σ H fun us H1 => ∃ i j : Int, us = [.int i, .int j] ∧ ForGo (Itr i (j - i).toNat) g tb D σ H1) : tFor (iRng2L ta) g tb D σ H := h
theorem fr_list (h : tl σ H fun x H1 => ∃ a, x = .ref a ∧ (∃ xs, SqL K H1 a xs) ∧ ForGo (Itl K a) g tb D σ H1) : tFor (iList K tl) g tb D σ H := h
theorem fr_str (h : tl σ H fun v H1 => ∃ x, v = .str x ∧ ForGo (Its x) g tb D σ H1) : tFor (iStr tl) g tb D σ H := h
theorem lc_rng1 (h : ta σ H fun us H1 => ∃ j : Int, us = [.int j] ∧ -(2 ^ 62) ≤ j ∧ j < 2 ^ 62 ∧ ∀ D, H1 D = none → LcGo (Itr 0 j.toNat) g tt te vs σ H1 D Q) : tLc (iRng1 ta) g tt te vs σ H Q := h
theorem lc_rng2 (h : ta σ H fun us H1 => ∃ i j : Int, us = [.int i, .int j] ∧ (-(2 ^ 62) ≤ i ∧ i < 2 ^ 62 ∧ -(2 ^ 62) ≤ j ∧ j < 2 ^ 62) ∧ ∀ D, H1 D = none → LcGo (Itr i (j - i).toNat) g tt te vs σ H1 D Q) : tLc (iRng2 ta) g tt te vs σ H Q := h
theorem lc_rng2L (h : ta σ H fun us H1 => ∃ i j : Int, us = [.int i, .int j] ∧ ∀ D, H1 D = none → LcGo (Itr i (j - i).toNat) g tt te vs σ H1 D Q) : tLc (iRng2L ta) g tt te vs σ H Q := h
theorem lc_lst (h : tl σ H fun x H1 => ∃ a, x = .ref a ∧ (∃ xs, SqL K H1 a xs) ∧ ∀ D, H1 D = none → LcGo (Itl K a) g tt te vs σ H1 D Q) : tLc (iList K tl) g tt te vs σ H Q := h
theorem lc_str (h : tl σ H fun v H1 => ∃ x, v = .str x ∧ ∀ D, H1 D = none → LcGo (Its x) g tt te vs σ H1 D Q) : tLc (iStr tl) g tt te vs σ H Q := h

theorem ForGo.range {lo : Int} {n : Nat} (Pv : Nat → L2.St → Hp → Prop) (h0 : Pv 0 σ H)
    (hs : ∀ i σ H, i < n → Pv i σ H → g (.int (lo + i)) σ H fun σ2 H2 => tb { D with nx := Pv (i + 1), ct := Pv (i + 1), bk := D.nx } σ2 H2) (hd : ∀ σ H, Pv n σ H → D.nx σ H) : ForGo (Itr lo n) g tb D σ H := for_range Pv h0 hs hd
theorem ForGo.list {a : Addr} {xs : List V} (Pv : Nat → L2.St → Hp → Prop) (h0 : Pv 0 σ H) (hl : ∀ i σ H, i ≤ xs.length → Pv i σ H → SqL K H a xs)
    (hs : ∀ i x σ H, xs[i]? = some x → Pv i σ H → g x σ H fun σ2 H2 => tb { D with nx := Pv (i + 1), ct := Pv (i + 1), bk := D.nx } σ2 H2) (hd : ∀ σ H, Pv xs.length σ H → D.nx σ H) : ForGo (Itl K a) g tb D σ H := for_list Pv h0 hl hs hd
theorem LcGo.range {lo : Int} {n : Nat} {D : Addr} (Pv : Nat → Hp → Prop) (h0 : Pv 0 (upd H D (.lst [])))
    (hs : ∀ i H, i < n → Pv i H → g (.int (lo + i)) (wipe σ vs) H fun σ2 H2 => wipe σ2 vs = wipe σ vs ∧ tt σ2 H2 fun b H3 =>
      if b = true then te σ2 H3 fun y H4 => ∃ acc, H4 D = some (.lst acc) ∧ acc.length < sizeLine ∧ Pv (i + 1) (upd H4 D (.lst (acc ++ [y]))) else Pv (i + 1) H3) (hd : ∀ H, Pv n H → Q (.ref D) H) : LcGo (Itr lo n) g tt te vs σ H D Q := L2.lc_range (lo := lo) (n := n) Pv h0 hs hd
theorem LcGo.list {a D : Addr} {xs : List V} (Pv : Nat → Hp → Prop) (h0 : Pv 0 (upd H D (.lst []))) (hl : ∀ i H, i ≤ xs.length → Pv i H → SqL K H a xs)
    (hs : ∀ i x H, xs[i]? = some x → Pv i H → g x (wipe σ vs) H fun σ2 H2 => wipe σ2 vs = wipe σ vs ∧ tt σ2 H2 fun b H3 =>
      if b = true then te σ2 H3 fun y H4 => ∃ acc, H4 D = some (.lst acc) ∧ acc.length < sizeLine ∧ Pv (i + 1) (upd H4 D (.lst (acc ++ [y]))) else Pv (i + 1) H3) (hd : ∀ H, Pv xs.length H → Q (.ref D) H) : LcGo (Itl K a) g tt te vs σ H D Q := L2.lc_list Pv h0 hl hs hd
theorem LcGo.str {z : Str} {D : Addr} (Pv : Nat → Hp → Prop) (h0 : Pv 0 (upd H D (.lst [])))
    (hs : ∀ i c H, z.cps[i]? = some c → Pv i H → g (.str ⟨#[c]⟩) (wipe σ vs) H fun σ2 H2 => wipe σ2 vs = wipe σ vs ∧ tt σ2 H2 fun b H3 =>
      if b = true then te σ2 H3 fun y H4 => ∃ acc, H4 D = some (.lst acc) ∧ acc.length < sizeLine ∧ Pv (i + 1) (upd H4 D (.lst (acc ++ [y]))) else Pv (i + 1) H3) (hd : ∀ H, Pv z.cps.size H → Q (.ref D) H) : LcGo (Its z) g tt te vs σ H D Q := by
  refine ⟨fun i m H => m = z.cps.size - i ∧ i ≤ z.cps.size ∧ Pv i H, ⟨z.cps.size, by simp, Nat.zero_le _, h0⟩, ?_⟩
  rintro i m H ⟨rfl, hi, p⟩
  by_cases hlt : i < z.cps.size
  · refine .inr ⟨hlt, Pv (i + 1), fun H' p' => ⟨z.cps.size - (i + 1), by omega, rfl, hlt, p'⟩, fun x H' y => ?_⟩
    obtain ⟨e, c, hc, rfl⟩ := y
    subst e
    exact hs i c _ hc p
  · have e : i = z.cps.size := by omega
    subst e
    exact .inl ⟨Nat.le_refl _, hd H p⟩
end
end BK

namespace BK
open PySem PySem.Spec PyProof.Rows L2

/-! ## del xs[a:] -/
theorem keep_from {α : Type} (a : Nat) : ∀ (xs : List α) (j n : Nat), xs.length + j ≤ n → (xs.zipIdx j).filterMap (fun (p : α × Nat) => if (decide (a ≤ p.2) && decide (p.2 < n)) = true then none else some p.1) = xs.take (a - j)
  | [], j, n, _ => by simp
  | x :: r, j, n, h => by
    rw [List.zipIdx_cons, List.filterMap_cons]
    have hn : j < n := by simp at h; omega
    have ih := keep_from a r (j + 1) n (by simp at h; omega)
    by_cases hj : a ≤ j
    · simp only [hj, hn, decide_true, Bool.and_self, if_true]
      rw [ih, show a - j = 0 by omega, show a - (j + 1) = 0 by omega]
      simp
    · simp only [hj, decide_false, Bool.false_and, Bool.false_eq_true, if_false]
      rw [ih, show a - j = (a - (j + 1)) + 1 by omega, List.take_succ_cons]
theorem pick_take {sel : Nat → Bool} {a n : Nat} (hs : ∀ k, sel k = (decide (a ≤ k) && decide (k < n))) (its : List Value) (hn : its.length = n) :
    (its.toArray.toList.zipIdx.filterMap fun (x : Value × Nat) => if sel x.2 = true then none else some x.1).toArray = (its.take a).toArray := by
  have e : (fun (x : Value × Nat) => if sel x.2 = true then none else some x.1) = fun (x : Value × Nat) => if (decide (a ≤ x.2) && decide (x.2 < n)) = true then none else some x.1 := funext fun x => by rw [hs]
  rw [e, show its.toArray.toList = its by simp, keep_from a its 0 n (by omega), Nat.sub_zero]
section
variable {prog : Program} {w : World} {A : Around} {E : Value → Shared → Prop} {s : Shared}
set_option maxRecDepth 100000 in
/-- a list's slice without end and step, deleted -/
theorem delItem_from {l sl : Addr} {its : List Value} {n : Nat} {vl : Value} {lo : Option Int} {Q : Unit → Shared → Prop}
    (e : s.heap.get? l = some { cls := .type "list", data := .seq its.toArray n })
    (hs : s.heap.IsSliceOf sl vl .none .none) (pl : IsPart vl lo) (hsz : its.length ≤ sizeLine)
    (h : ∀ f : Array Value → Array Value, f its.toArray = (its.take (HT.sIx its.length 0 lo)).toArray → Q () { s with heap := s.heap.update l (Obj.mapSeq f) }) :
    wpAny (model prog w) A (delItem (.ref l) (.ref sl)) Q E s := by
  have hl : s.heap.IsList l its.toArray := PySem.IsL.isList e
  obtain ⟨os, hos, hcs, hds⟩ := id hs
  have hTs : s.TypeIs (.ref sl) "slice" := ⟨os, hos, hcs⟩
  have hstep : ¬ ((rawPart none == rawInt 0) = true) := Bool.false_ne_true
  refine wpAny_delItem_slot hl.typeIs (by decide) PySem.F.slot_list_delitem ?_
  refine wpAny_call_entry PySem.F.slot_list_delitem hl.typeIs PySem.F.entry_list_delitem ?_ (PySem.F.args_list_delitem_2 _ _)
  refine wpAny_bind (m := slotArgs "__delitem__" 1 _) (wpAny_pure ?_)
  refine wpAny_bind (m := Builtin.List.listSubscript? (.ref sl)) ?_
  unfold Builtin.List.listSubscript?
  refine wpAny_bind (wpAny_specialOf hTs slice_no_index ?_)
  simp only [Option.isNone_none, if_true]
  refine wpAny_pure ?_
  show wpAny _ _ (typeOf (.ref sl) >>= _) _ _ s
  refine wpAny_bind (wpAny_typeOf hTs ?_)
  first
    | rw [if_neg (by decide)]
    | refine PySem.W.KFB.if_not (by decide) ?_
  rw [listSliceParts_eq]
  refine wpAny_bind (wpAny_bind (wpAny_field hos hds (x := .none) rfl (wpAny_bind (wpAny_listPart .none ?_))))
  rw [if_neg hstep]
  refine wpAny_bind (wpAny_field hos hds (x := vl) rfl (wpAny_bind (wpAny_listPart pl ?_)))
  refine wpAny_bind (wpAny_field hos hds (x := .none) rfl (wpAny_bind (wpAny_listPart .none (wpAny_pure ?_))))
  refine wpAny_bind (m := Builtin.List.listItems (.ref l)) ?_
  unfold Builtin.List.listItems
  refine wpAny_bind (wpAny_seqItems e rfl (wpAny_pure ?_))
  have hb : sliceBounds lo none none its.toArray.size = (((HT.sIx its.length 0 lo : Nat) : Int), (((its.length : Nat) : Int), (1 : Int))) := by
    obtain ⟨h1, h2, h3⟩ := slice_bounds lo none its.toArray.size
    have e1 : its.toArray.size = its.length := List.size_toArray
    rw [e1] at h1 h2 h3 ⊢
    have h2' : (sliceBounds lo none none its.length).2.1 = ((its.length : Nat) : Int) := by rw [h2]; rfl
    exact Prod.ext h1 (Prod.ext h2' h3)
  refine wpAny_bind (wpAny_of_eq ((sliceIndices_raw lo none none its.toArray.size (by simp)).trans (congrArg (pure : Int × Int × Int → Sem (Int × Int × Int)) hb)) ?_)
  refine wpAny_bind (m := rule "list.__delitem__.slice") (wpAny_rule ?_)
  have pk := fun (sel : Nat → Bool) hs => pick_take (sel := sel) (a := HT.sIx its.length 0 lo) (n := its.length) hs its rfl
  refine wpAny_bind (m := updateSeq l _) (wpAny_updateSeq (hz := by rw [List.size_toArray]; exact hsz) (_hz' := ?_) e rfl ?_)
  rotate_left
  · refine Nat.le_trans (Nat.le_of_eq (congrArg Array.size (pk _ fun k => ?_))) ?_
    · show (decide (((HT.sIx its.length 0 lo : Nat) : Int) ≤ (k : Int)) && decide ((k : Int) < ((its.length : Nat) : Int)) && (((k : Int) - ((HT.sIx its.length 0 lo : Nat) : Int)) % 1 == 0)) = _
      rw [Int.emod_one]
      simp
    · rw [List.size_toArray, List.length_take]
      omega
  refine wpAny_bind (wpAny_letGo ?_)
  refine wpAny_pure ⟨_, rfl, h _ (pk _ fun k => ?_)⟩
  show (decide (((HT.sIx its.length 0 lo : Nat) : Int) ≤ (k : Int)) && decide ((k : Int) < ((its.length : Nat) : Int)) && (((k : Int) - ((HT.sIx its.length 0 lo : Nat) : Int)) % 1 == 0)) = _
  rw [Int.emod_one]
  simp
end
section
variable {X : Cx}
theorem del_slice {pins : List (Addr × Obj)} {s : Shared} {σ : L2.St} {H : Hp} {l sl : Addr} {xs : List V} {vl : Value} {lo : Option Int} {Q : Unit → Shared → Prop} (I : L2.Inv X pins σ H s)
    (hH : H l = some (.lst xs)) (hs : s.heap.IsSliceOf sl vl .none .none) (pl : IsPart vl lo)
    (h : ∀ s', L2.Inv X pins σ (upd H l (.lst (xs.take (HT.sIx xs.length 0 lo)))) s' → Q () s') :
    wpAny (model X.prog X.w) X.A (delItem (.ref l) (.ref sl)) Q X.xe s := by
  obtain ⟨z, its, n, r, hl, e⟩ := I.lstM hH
  refine delItem_from e hs pl (by omega) fun f hf => h _ ?_
  refine I.lset (its' := its.take (HT.sIx its.length 0 lo)) (t' := s.toks) hH e hf (by rw [← hl]; exact r.take _) ?_
  rw [List.length_take]
  omega
/-- del xs[a:] of a list -/
def tDelS (to : TE) (tl : TO) : TS := fun D σ H => to σ H fun x H1 => tl σ H1 fun lo H2 => ∃ (l : Addr) (xs : List V), x = .ref l ∧ H2 l = some (.lst xs) ∧ D.nx σ (upd H2 l (.lst (xs.take (HT.sIx xs.length 0 lo))))
theorem ps_delS {o : Expr} {lo : Option Expr} {to : TE} {tl : TO} {p2 tpos pos : Pos} (ho : PE X o to) (hl : PO X lo tl) : PS X (.Delete [.Subscript o (.Slice lo none none p2) tpos] pos) (tDelS to tl) := by
  refine ⟨fun pins s σ H D I h => ?_⟩
  refine wpAny_Delete (wpAny_deleteEach_cons (wpAny_delete_Subscript (thn (ho.run pins s σ H _ I h) fun u s1 ⟨x, H1, I1, rx, q1⟩ => ?_)))
  refine wpAny_Slice (thn (hl.run pins s1 σ H1 _ I1 q1) fun vl s2 ⟨l, H2, I2, pl, q2⟩ => ?_)
  rw [evalPart_none]
  refine wpAny_pure ?_
  refine wpAny_pure ?_
  obtain ⟨b, xs, ex, hH, q2⟩ := q2
  subst ex
  cases (show u = Value.ref b from rx)
  have I4 : L2.Inv X pins σ H2 { s2 with heap := s2.heap.push { cls := .type "slice", data := .fields #[vl, .none, .none] } } := I2.kept (t' := s2.toks) fun b ob q => Heap.get?_push_of_some _ q
  exact del_slice I4 hH (Heap.IsSliceOf.new ..) pl fun s3 I3 => wpAny_deleteEach_nil ⟨σ, _, I3, q2⟩
end
end BK

namespace BK
open PySem PySem.Spec PyProof.Rows L2 Builtin Builtin.Str

/-! ### texts as lists of codes -/
def tx (w : List Nat) : Str := ⟨w.toArray⟩
theorem tx_cps (w : List Nat) : (tx w).cps.toList = w := by unfold tx; simp
theorem tx_len (w : List Nat) : (tx w).length = w.length := by unfold tx; simp [Str.length]
theorem tx_inj {a b : List Nat} (h : tx a = tx b) : a = b := by
  have := congrArg (fun z : Str => z.cps.toList) h
  simpa [tx_cps] using this
theorem tx_of (z : Str) : tx z.cps.toList = z := Str.ext' (by unfold tx; simp)
theorem tx_ext {z : Str} {w : List Nat} (h : z.cps.toList = w) : z = tx w := by rw [← h, tx_of]
theorem tx_app (a b : List Nat) : tx a ++ tx b = tx (a ++ b) := tx_ext (by rw [Str.cps_append, Array.toList_append, tx_cps, tx_cps])
theorem tx_eq (a b : List Nat) : (V.str (tx a) = V.str (tx b)) ↔ a = b := ⟨fun h => tx_inj (V.str.inj h), fun h => by rw [h]⟩
theorem tx_one (c : Nat) : tx [c] = ⟨#[c]⟩ := rfl
theorem tx_nil : tx [] = "" := rfl

theorem cut_nn (w : List Nat) (i j : Nat) : cutS (tx w) (some (i : Int)) (some (j : Int)) = tx ((w.drop i).take (j - i)) := by
  refine tx_ext ?_
  unfold cutS
  rw [HT.sIx_nat, HT.sIx_nat, tx_cps, tx_len, List.toList_toArray]
  by_cases hi : i ≤ w.length
  · rw [Nat.min_eq_left hi]
    by_cases hj : j ≤ w.length
    · rw [Nat.min_eq_left hj]
    · rw [Nat.min_eq_right (by omega), List.take_of_length_le (by rw [List.length_drop]; omega), List.take_of_length_le (by rw [List.length_drop]; omega)]
  · rw [Nat.min_eq_right (show w.length ≤ i by omega), List.drop_length, List.drop_eq_nil_of_le (by omega), List.take_nil, List.take_nil]
theorem cut_n_ (w : List Nat) (i : Nat) : cutS (tx w) (some (i : Int)) none = tx (w.drop i) := by
  refine tx_ext ?_
  unfold cutS
  rw [HT.sIx_nat, HT.sIx_none, tx_cps, tx_len, List.toList_toArray]
  by_cases hi : i ≤ w.length
  · rw [Nat.min_eq_left hi, List.take_of_length_le (by rw [List.length_drop]; omega)]
  · rw [Nat.min_eq_right (by omega), List.drop_length, List.drop_eq_nil_of_le (by omega), List.take_nil]
theorem cut__n (w : List Nat) (j : Nat) : cutS (tx w) none (some (j : Int)) = tx (w.take j) := by
  refine tx_ext ?_
  unfold cutS
  rw [HT.sIx_nat, HT.sIx_none, tx_cps, tx_len, List.toList_toArray, List.drop_zero, Nat.sub_zero]
  by_cases hj : j ≤ w.length
  · rw [Nat.min_eq_left hj]
  · rw [Nat.min_eq_right (by omega), List.take_of_length_le (Nat.le_refl _), List.take_of_length_le (by omega)]

theorem foldl_app (l : List (List Nat)) : ∀ acc : Array Nat, ((l.map List.toArray).foldl (· ++ ·) acc).toList = acc.toList ++ l.flatten := by
  induction l with
  | nil => intro acc; simp
  | cons a l ih =>
    intro acc
    rw [List.map_cons, List.foldl_cons, ih, Array.toList_append, List.toList_toArray, List.flatten_cons, List.append_assoc]
theorem mul_tx (w : List Nat) (n : Nat) : Txt.mul (tx w) (n : Int) = tx (List.replicate n w).flatten := by
  refine tx_ext ?_
  unfold Txt.mul
  split
  · have : n = 0 := by omega
    subst this
    rfl
  · split
    · rename_i h1 h2
      rw [Bool.or_eq_true] at h2
      rcases h2 with h2 | h2
      · have : n = 1 := by have := eq_of_beq h2; omega
        subst this
        rw [tx_cps]
        simp
      · have : w = [] := by
          have := eq_of_beq h2
          rw [tx_len] at this
          exact List.eq_nil_of_length_eq_zero this
        subst this
        rw [tx_cps]
        simp
    · rw [Int.toNat_natCast]
      have e : List.replicate n (tx w).cps = (List.replicate n w).map List.toArray := by rw [List.map_replicate]; rfl
      show (List.foldl (· ++ ·) #[] (List.replicate n (tx w).cps)).toList = _
      rw [e, foldl_app]
      simp
theorem mul_ok {w : List Nat} {n : Nat} (L N : Nat) (h : w.length ≤ L) (hn : n ≤ N) (hN : N ≤ 16777216) (hL : L * N ≤ 16777216) : MulOk (tx w) (n : Int) :=
  mulOk_of L N (by rw [tx_len]; exact h) (by omega) (by omega) hN hL

theorem join_go : ∀ (ws : List (List Nat)) (acc : Array Nat), ((ws.map tx).foldl (fun acc p => acc ++ (tx []).cps ++ p.cps) acc).toList = acc.toList ++ ws.flatten
  | [], acc => by simp
  | a :: l, acc => by
    rw [List.map_cons, List.foldl_cons, join_go l, Array.toList_append, Array.toList_append, tx_cps, List.flatten_cons, tx_cps, List.append_nil, List.append_assoc]
theorem join_tx (ws : List (List Nat)) : Txt.join (tx []) (ws.map tx) = tx ws.flatten := by
  refine tx_ext ?_
  show (glued (tx []) (ws.map tx)).cps.toList = _
  unfold glued
  cases ws with
  | nil => rfl
  | cons a l =>
    show (((l.map tx)).foldl (fun acc p => acc ++ (tx []).cps ++ p.cps) (tx a).cps).toList = _
    rw [join_go, tx_cps, List.flatten_cons]

/-! ### how many of one sign -/
theorem sub_one (w : List Nat) (c i : Nat) : (i + (tx [c]).length ≤ (tx w).length ∧ subAt (tx w) (tx [c]) i = true) ↔ w[i]? = some c := by
  have h := StrLaws.subAt_one (tx w) c i
  rw [tx_cps] at h
  exact h
theorem occ_run (w : List Nat) (c : Nat) : ∀ (n i : Nat) (st : Array Nat × Nat), st.2 ≤ i → st.1.size ≤ i → i ≤ w.length →
    (forIn (List.range' i n) st (StrLaws.occBody (tx w) (tx [c]) (tx w).length ((tx w).length + 1))).run.1.size = st.1.size + ((w.drop i).take n).count c
  | 0, i, st, h1, h2, h3 => by simp
  | n + 1, i, st, h1, h2, h3 => by
    rw [List.range'_succ, List.forIn_cons]
    unfold StrLaws.occBody
    have hs := sub_one w c i
    by_cases hc : w[i]? = some c
    · have hq := hs.mpr hc
      have hlt : i < w.length := (List.getElem?_eq_some_iff.mp hc).1
      rw [if_pos ⟨⟨⟨by rw [tx_len]; omega, h1⟩, hq.1⟩, hq.2⟩]
      have ih := occ_run w c n (i + 1) (st.1.push i, i + (tx [c]).length) (by rw [tx_len]; exact Nat.le_refl _) (by rw [Array.size_push]; omega) hlt
      refine ih.trans ?_
      rw [Array.size_push, List.drop_eq_getElem_cons hlt, List.take_succ_cons, List.count_cons]
      have e : w[i] = c := (List.getElem?_eq_some_iff.mp hc).2
      rw [e, beq_self_eq_true, if_pos rfl]
      omega
    · rw [if_neg (fun z => hc (hs.mp ⟨z.1.2, z.2⟩))]
      by_cases hlt : i < w.length
      · have ih := occ_run w c n (i + 1) (st.1, st.2) (by show st.2 ≤ i + 1; omega) (by show st.1.size ≤ i + 1; omega) hlt
        refine ih.trans ?_
        rw [List.drop_eq_getElem_cons hlt, List.take_succ_cons, List.count_cons]
        have e : w[i] ≠ c := fun z => hc (by rw [List.getElem?_eq_getElem hlt, z])
        rw [beq_eq_false_iff_ne.mpr e, if_neg Bool.false_ne_true, Nat.add_zero]
        all_goals rfl
      · have e0 : ∀ (m j : Nat) (st : Array Nat × Nat), w.length ≤ j → (forIn (List.range' j m) st (StrLaws.occBody (tx w) (tx [c]) (tx w).length ((tx w).length + 1))).run.1.size = st.1.size := by
          intro m
          induction m with
          | zero => intro j st _; rfl
          | succ m ih =>
            intro j st hj
            rw [List.range'_succ, List.forIn_cons]
            unfold StrLaws.occBody
            rw [if_neg (fun z => by have := (sub_one w c j).mp ⟨z.1.2, z.2⟩; rw [List.getElem?_eq_none hj] at this; cases this)]
            exact ih (j + 1) (st.1, st.2) (by omega)
        refine (e0 n (i + 1) (st.1, st.2) (by omega)).trans ?_
        rw [List.drop_eq_nil_of_le (by omega), List.take_nil, List.count_nil, Nat.add_zero]
theorem count_tx (w : List Nat) (c : Nat) : Txt.count (tx w) (tx [c]) = (w.count c : Nat) := by
  unfold Txt.count
  rw [StrLaws.occ_eq, Array.length_toList]
  have h := occ_run w c ((tx w).length + 1 - 0) 0 (#[], 0) (Nat.le_refl _) (Nat.le_refl _) (Nat.zero_le _)
  rw [h, List.drop_zero, List.take_of_length_le (by rw [tx_len]; omega)]
  simp

/-! ### strip of signs -/
theorem takeWhile_all {p : Nat → Bool} : ∀ {l : List Nat}, l.all p = true → l.takeWhile p = l
  | [], _ => rfl
  | a :: l, h => by
    rw [List.all_cons, Bool.and_eq_true] at h
    rw [List.takeWhile_cons, if_pos h.1, takeWhile_all h.2]
theorem takeWhile_len {p : Nat → Bool} : ∀ (l : List Nat), l.all p = false → ∃ x, l[(l.takeWhile p).length]? = some x ∧ p x = false
  | [], h => by simp at h
  | a :: l, h => by
    rw [List.takeWhile_cons]
    by_cases ha : p a = true
    · rw [List.all_cons, ha, Bool.true_and] at h
      rw [if_pos ha]
      obtain ⟨x, h1, h2⟩ := takeWhile_len l h
      exact ⟨x, by rw [List.length_cons, List.getElem?_cons_succ]; exact h1, h2⟩
    · rw [if_neg ha]
      exact ⟨a, rfl, Bool.eq_false_iff.mpr ha⟩
theorem strip_iff (w y : List Nat) : (Txt.stripChars (tx w) (tx y) = tx []) ↔ w.all (y.contains ·) = true := by
  have hp : ∀ c, (tx y).cps.contains c = y.contains c := fun c => by unfold tx; simp
  have hp' : (tx y).cps.contains = fun c => y.contains c := funext hp
  unfold Txt.stripChars Txt.stripBy
  rw [hp']
  have hlo : stripLo (fun c => y.contains c) true (tx w) = (w.takeWhile fun c => y.contains c).length := by
    unfold stripLo
    rw [if_pos rfl, tx_cps]
  cases hall : w.all (y.contains ·) with
  | true =>
    have e := takeWhile_all (p := fun c => y.contains c) hall
    rw [e] at hlo
    refine ⟨fun _ => rfl, fun _ => ?_⟩
    by_cases hs : stripSame (fun c => y.contains c) true true (tx w) = true
    · rw [if_pos hs]
      unfold stripSame at hs
      rw [Bool.and_eq_true] at hs
      rw [hlo] at hs
      have : w.length = 0 := eq_of_beq hs.1
      rw [List.eq_nil_of_length_eq_zero this]
    · rw [if_neg hs]
      refine tx_ext ?_
      unfold stripped
      rw [hlo, StrLaws.strSub_toList, tx_cps, List.drop_length, List.take_nil]
  | false =>
    refine ⟨fun h => ?_, fun h => by cases h⟩
    exfalso
    obtain ⟨x, hx, hpx⟩ := takeWhile_len (p := fun c => y.contains c) w hall
    by_cases hs : stripSame (fun c => y.contains c) true true (tx w) = true
    · rw [if_pos hs] at h
      have : w = [] := tx_inj h
      subst this
      simp at hall
    · rw [if_neg hs] at h
      have h2 := congrArg (fun z : Str => z.cps.toList) h
      unfold stripped at h2
      simp only [StrLaws.strSub_toList, tx_cps, hlo] at h2
      have hlt : (w.takeWhile fun c => y.contains c).length < w.length := (List.getElem?_eq_some_iff.mp hx).1
      -- the right end lies behind x
      have hhi : (w.takeWhile fun c => y.contains c).length < stripHi (fun c => y.contains c) true (tx w) (w.takeWhile fun c => y.contains c).length := by
        unfold stripHi
        rw [if_pos rfl, tx_cps, tx_len]
        have hne : ((w.drop (w.takeWhile fun c => y.contains c).length).reverse).all (fun c => y.contains c) = false := by
          rw [List.all_reverse, List.drop_eq_getElem_cons hlt, List.all_cons]
          have e : w[(w.takeWhile fun c => y.contains c).length] = x := (List.getElem?_eq_some_iff.mp hx).2
          rw [e, hpx, Bool.false_and]
        obtain ⟨z, hz, _⟩ := takeWhile_len (p := fun c => y.contains c) _ hne
        have hl2 := (List.getElem?_eq_some_iff.mp hz).1
        rw [List.length_reverse, List.length_drop] at hl2
        omega
      have h3 := congrArg List.length h2
      rw [List.length_take, List.length_drop] at h3
      have hz : ([] : List Nat).length = 0 := rfl
      have hk : 0 < stripHi (fun c => y.contains c) true (tx w) (w.takeWhile fun c => y.contains c).length - (w.takeWhile fun c => y.contains c).length := by omega
      have h4 : (tx ([] : List Nat)).cps.toList.length = 0 := rfl
      have h5 : min (stripHi (fun c => y.contains c) true (tx w) (w.takeWhile fun c => y.contains c).length - (w.takeWhile fun c => y.contains c).length) (w.length - (w.takeWhile fun c => y.contains c).length) = 0 := h3
      omega
end BK

namespace BK
open PySem PySem.Spec PyProof.Rows L2

/-! ## list(text) -/
section
variable {X : Cx}
theorem signs_vals {x : Str} {acc : Array Value} (h : ItemsOf (SignAt x) acc x.cps.size) : Vals (x.cps.toList.map fun c => V.str (tx [c])) acc.toList := by
  refine vals_of_at ?_ fun j y u h1 h2 => ?_
  · rw [List.length_map, Array.length_toList, Array.length_toList, h.1]
  · obtain ⟨c, t, e1, e2⟩ := h.2 j u (by rw [← Array.getElem?_toList]; exact h2)
    rw [List.getElem?_map, Array.getElem?_toList, e1] at h1
    cases h1
    exact ⟨t, e2⟩
theorem call_listS (hc : X.calm = true) : CallR X (.type "list") (fun xs H Q => ∃ x : Str, xs = [.str x] ∧ x.cps.size ≤ sizeLine ∧ ∀ p, H p = none → Q (.ref p) (upd H p (.lst (x.cps.toList.map fun c => V.str (tx [c]))))) := by
  intro pins s σ H xs us Q I r h
  obtain ⟨x, e, hz, q⟩ := h
  subst e
  obtain ⟨u, eu, rx⟩ := vals1 r
  subst eu
  obtain ⟨t, rfl⟩ := rx
  refine call_list_str (I.ok.hd hc) x t (fun h' tk acc c' hk hD hacc => ?_) hz
  refine ⟨.ref s.heap.objs.size, upd H s.heap.objs.size (.lst (x.cps.toList.map fun c => V.str (tx [c]))), I.laid (t' := tk) hk (Nat.le_refl _)
    (show ObjOk X.prog X.w _ _ _ (.lst (x.cps.toList.map fun c => V.str (tx [c]))) from ⟨by rw [List.length_map, Array.length_toList]; exact hz, acc.toList, c', signs_vals hacc, by rw [Array.toArray_toList]; exact hD⟩), rfl, q _ (I.hok.fresh (Nat.le_refl _))⟩
end

/-! ## a dict of the module: texts by texts -/
def dtx (e : DictEntry) : Option (Str × Str) := match e.key, e.val with
  | .str x _, .str y _ => some (x, y)
  | _, _ => none
structure SDict (K : PySem.W.Frag) (w : World) (mg : Str → Option Value) (x : Str) (ps : List (Str × Str)) : Type where
  d : Addr
  es : Array DictEntry
  n : Nat
  g : mg x = some (.ref d)
  k : KDict K w d es n
  e : es.toList.map dtx = ps.map some
theorem dtx_find (z : Str) : ∀ (es : List DictEntry) (ps : List (Str × Str)), es.map dtx = ps.map some →
    (ps.lookup z = none → es.find? (·.key.isStr z) = none ∧ es.any (·.refKey) = false) ∧ (∀ y, ps.lookup z = some y → ∃ e t, es.find? (·.key.isStr z) = some e ∧ e.val = .str y t)
  | [], [], _ => ⟨fun _ => ⟨rfl, rfl⟩, fun y h => by cases h⟩
  | [], _ :: _, h => by cases h
  | _ :: _, [], h => by cases h
  | e :: es, p :: ps, h => by
    obtain ⟨h1, h2⟩ := List.cons.inj h
    have ih := dtx_find z es ps h2
    obtain ⟨a, b⟩ := p
    unfold dtx at h1
    split at h1
    · rename_i x t y t2 k1 k2
      have e3 := Option.some.inj h1
      obtain ⟨rfl, rfl⟩ := Prod.mk.inj e3
      have hk : e.key.isStr z = (x == z) := by rw [k1]; rfl
      have hr : e.refKey = false := by unfold DictEntry.refKey; rw [k1]
      by_cases hz : z = x
      · subst hz
        refine ⟨fun hh => ?_, fun y' hy => ?_⟩
        · rw [List.lookup_cons_self] at hh
          cases hh
        · rw [List.lookup_cons_self] at hy
          cases hy
          refine ⟨e, t2, ?_, k2⟩
          rw [List.find?_cons, hk]
          simp
      · have hb : (z == x) = false := beq_eq_false_iff_ne.mpr hz
        have hb2 : (x == z) = false := beq_eq_false_iff_ne.mpr fun q => hz q.symm
        refine ⟨fun hh => ?_, fun y' hy => ?_⟩
        · rw [List.lookup_cons, hb] at hh
          obtain ⟨i1, i2⟩ := ih.1 hh
          rw [List.find?_cons, hk, hb2, List.any_cons, hr]
          exact ⟨i1, i2⟩
        · rw [List.lookup_cons, hb] at hy
          obtain ⟨e', t', i1, i2⟩ := ih.2 y' hy
          refine ⟨e', t', ?_, i2⟩
          rw [List.find?_cons, hk, hb2]
          exact i1
    · cases h1
theorem SDict.none {K : PySem.W.Frag} {w : World} {mg : Str → Option Value} {x : Str} {ps : List (Str × Str)} (D : SDict K w mg x ps) {z : Str} (h : ps.lookup z = .none) : PySem.W.nsIn K D.d z = some .none := by
  obtain ⟨h1, h2⟩ := (dtx_find z _ _ D.e).1 h
  unfold PySem.W.nsIn
  rw [D.k.at_]
  dsimp only
  rw [h1]
  dsimp only
  rw [h2]
  rfl
theorem SDict.some {K : PySem.W.Frag} {w : World} {mg : Str → Option Value} {x : Str} {ps : List (Str × Str)} (D : SDict K w mg x ps) {z y : Str} (h : ps.lookup z = .some y) : ∃ t, PySem.W.nsIn K D.d z = some (.some (.str y t)) := by
  obtain ⟨e, t, h1, h2⟩ := (dtx_find z _ _ D.e).2 y h
  refine ⟨t, ?_⟩
  unfold PySem.W.nsIn
  rw [D.k.at_]
  dsimp only
  rw [h1]
  dsimp only
  rw [h2]
section
variable {X : Cx} {x : Str} {ps : List (Str × Str)}
theorem pe_sd {pos : Pos} (D : SDict X.K X.w X.mg x ps) (hg : Gl X x) (hd : (x == ("__debug__" : Str)) = false) : PE X (.Name x pos) (tC (.ref D.d)) := pe_glob hg D.g rfl hd
theorem op_in_sd (D : SDict X.K X.w X.mg x ps) : OpR X (compareOp .In) (fun a b H Q => ∃ z : Str, a = .str z ∧ b = .ref D.d ∧ Q (.bl (ps.lookup z).isSome) H) := by
  intro pins s σ H a b v u Q I rx ry h
  obtain ⟨z, e1, e2, q⟩ := h
  cases hl : ps.lookup z with
  | none =>
    rw [hl] at q
    exact op_in_kd D.k pins s σ H a b v u Q I rx ry ⟨z, .none, e1, e2, D.none hl, q⟩
  | some y =>
    rw [hl] at q
    obtain ⟨t, e⟩ := D.some hl
    exact op_in_kd D.k pins s σ H a b v u Q I rx ry ⟨z, _, e1, e2, e, q⟩
def oV : Option Str → V
  | none => .non
  | some y => .str y
def tSGet (d : Addr) (ps : List (Str × Str)) (to te : TE) : TE := fun σ H Q => to σ H fun x H1 => x = .ref d ∧ te σ H1 fun y H2 => ∃ z : Str, y = .str z ∧ Q (oV (ps.lookup z)) H2
theorem pe_sget {o e : Expr} {to te : TE} {apos cpos : Pos} (D : SDict X.K X.w X.mg x ps) (ho : PE X o to) (he : PE X e te) (m : M1 X o "get" apos e cpos) : PE X (.Call (.Attribute o "get" apos) [e] [] cpos) (tSGet D.d ps to te) := by
  refine ⟨fun pins s σ H Q I h => ?_⟩
  refine wpAny_Call_method m.base m.few m.line PySem.F.plainAttrs_dict PySem.F.slot_dict_get PySem.F.type_dict_get (thn (ho.run pins s σ H _ I h) fun u s1 ⟨x, H1, I1, rx, ex, q1⟩ => ?_)
  subst ex
  obtain rfl : u = Value.ref D.d := rx
  have hm0 := PySem.W.mapOf_K (prog := X.prog) (w := X.w) I1.kIn D.k.at_ D.k.lit
  refine ⟨hm0.typeIs, fun b e => ?_, ?_⟩
  · cases e
    exact ⟨_, I1.kIn _ _ D.k.at_, rfl⟩
  rw [m.trees]
  refine wpAny_dict_get1 (knd := PySem.strKind X.prog X.w) D.k.low (thn (he.run pins s1 σ H1 _ I1 q1) fun iv s2 ⟨y, H2, I2, ry, z, ey, q2⟩ => ?_)
  subst ey
  obtain ⟨t, rfl⟩ := ry
  refine ⟨z, _, PySem.strKind_is X.prog X.w z t, PySem.W.mapOf_K (prog := X.prog) (w := X.w) I2.kIn D.k.at_ D.k.lit, ?_⟩
  cases hl : ps.lookup z with
  | none =>
    rw [PySem.W.find_K D.k.at_ (D.none hl)]
    rw [hl] at q2
    exact ⟨.non, H2, I2.tok _, rfl, q2⟩
  | some y =>
    obtain ⟨t2, e⟩ := D.some hl
    rw [PySem.W.find_K D.k.at_ e]
    rw [hl] at q2
    exact ⟨.str y, H2, I2.tok _, ⟨t2, rfl⟩, q2⟩
end
theorem SDict.at {K : PySem.W.Frag} {w : World} {mg : Str → Option Value} {x : Str} {ps : List (Str × Str)} (D : SDict K w mg x ps) {z y : Str} (h : ps.lookup z = .some y) : KDct K w D.d z (.str y) := by
  obtain ⟨t, e⟩ := D.some h
  exact ⟨D.es, D.n, _, D.k.at_, D.k.lit, e, t, rfl⟩
/-! ## a dict of the module: texts by numbers -/
def dti (e : DictEntry) : Option (Str × Int) := match e.key, e.val with
  | .str x _, .int y _ => some (x, y)
  | _, _ => none
structure IDict (K : PySem.W.Frag) (w : World) (mg : Str → Option Value) (x : Str) (ps : List (Str × Int)) : Type where
  d : Addr
  es : Array DictEntry
  n : Nat
  g : mg x = some (.ref d)
  k : KDict K w d es n
  e : es.toList.map dti = ps.map some
theorem dti_find (z : Str) (y : Int) : ∀ (es : List DictEntry) (ps : List (Str × Int)), es.map dti = ps.map some → ps.lookup z = some y → ∃ e t, es.find? (·.key.isStr z) = some e ∧ e.val = .int y t
  | [], [], _, h => by cases h
  | [], _ :: _, h, _ => by cases h
  | _ :: _, [], h, _ => by cases h
  | e :: es, p :: ps, h, hy => by
    obtain ⟨h1, h2⟩ := List.cons.inj h
    obtain ⟨a, b⟩ := p
    unfold dti at h1
    split at h1
    · rename_i x t y' t2 k1 k2
      obtain ⟨rfl, rfl⟩ := Prod.mk.inj (Option.some.inj h1)
      have hk : e.key.isStr z = (x == z) := by rw [k1]; rfl
      by_cases hz : z = x
      · subst hz
        rw [List.lookup_cons_self] at hy
        cases hy
        refine ⟨e, t2, ?_, k2⟩
        rw [List.find?_cons, hk]
        simp
      · have hb : (z == x) = false := beq_eq_false_iff_ne.mpr hz
        have hb2 : (x == z) = false := beq_eq_false_iff_ne.mpr fun q => hz q.symm
        rw [List.lookup_cons, hb] at hy
        obtain ⟨e', t', i1, i2⟩ := dti_find z y es ps h2 hy
        refine ⟨e', t', ?_, i2⟩
        rw [List.find?_cons, hk, hb2]
        exact i1
    · cases h1
theorem IDict.at {K : PySem.W.Frag} {w : World} {mg : Str → Option Value} {x : Str} {ps : List (Str × Int)} (D : IDict K w mg x ps) {z : Str} {y : Int} (h : ps.lookup z = .some y) : KDct K w D.d z (.int y) := by
  obtain ⟨e, t, h1, h2⟩ := dti_find z y _ _ D.e h
  refine ⟨D.es, D.n, .int y t, D.k.at_, D.k.lit, ?_, t, rfl⟩
  unfold PySem.W.nsIn
  rw [D.k.at_]
  dsimp only
  rw [h1]
  dsimp only
  rw [h2]
theorem pe_id {X : Cx} {x : Str} {ps : List (Str × Int)} {pos : Pos} (D : IDict X.K X.w X.mg x ps) (hg : Gl X x) (hd : (x == ("__debug__" : Str)) = false) : PE X (.Name x pos) (tC (.ref D.d)) := pe_glob hg D.g rfl hd
end BK

namespace BK
open PySem PySem.Spec PyProof.Rows L2

/-! ### a word again and again -/
def rep (w : List Nat) (n : Nat) : List Nat := (List.replicate n w).flatten
theorem rep_zero (w : List Nat) : rep w 0 = [] := rfl
theorem rep_succ (w : List Nat) (n : Nat) : rep w (n + 1) = w ++ rep w n := by unfold rep; rw [List.replicate_succ, List.flatten_cons]
theorem rep_len (w : List Nat) : ∀ n, (rep w n).length = n * w.length
  | 0 => by rw [rep_zero]; simp
  | n + 1 => by rw [rep_succ, List.length_append, rep_len w n, Nat.add_mul, Nat.one_mul, Nat.add_comm]
theorem rep_add (w : List Nat) (m : Nat) : ∀ n, rep w (n + m) = rep w n ++ rep w m
  | 0 => by rw [Nat.zero_add, rep_zero, List.nil_append]
  | n + 1 => by rw [show n + 1 + m = (n + m) + 1 by omega, rep_succ, rep_add w m n, rep_succ, List.append_assoc]
theorem rep_get (w : List Nat) : ∀ (n i : Nat), i < n * w.length → (rep w n)[i]? = w[i % w.length]?
  | 0, i, h => by simp at h
  | n + 1, i, h => by
    rw [rep_succ]
    by_cases hi : i < w.length
    · rw [List.getElem?_append_left hi, Nat.mod_eq_of_lt hi]
    · have hn : w.length ≤ i := by omega
      have h2 : i - w.length < n * w.length := by rw [Nat.add_mul, Nat.one_mul] at h; omega
      rw [List.getElem?_append_right hn, rep_get w n _ h2, Nat.mod_eq_sub_mod hn]
theorem rep_count (w : List Nat) (c : Nat) : ∀ n, (rep w n).count c = n * w.count c
  | 0 => by rw [rep_zero]; simp
  | n + 1 => by rw [rep_succ, List.count_append, rep_count w c n, Nat.add_mul, Nat.one_mul, Nat.add_comm]
theorem rep_take {w : List Nat} (hw : w ≠ []) {n m : Nat} (h : m ≤ n * w.length) : (rep w n).take m = rep w (m / w.length) ++ w.take (m % w.length) := by
  have hp : 0 < w.length := List.length_pos_iff.mpr hw
  have hq : m / w.length ≤ n := by
    have := Nat.div_le_div_right (c := w.length) h
    rwa [Nat.mul_div_cancel _ hp] at this
  have e : n = m / w.length + (n - m / w.length) := by omega
  rw [e, rep_add]
  have hm : m = m / w.length * w.length + m % w.length := by rw [Nat.mul_comm]; exact (Nat.div_add_mod m w.length).symm
  rw [List.take_append, rep_len]
  have h1 : List.take m (rep w (m / w.length)) = rep w (m / w.length) := List.take_of_length_le (by rw [rep_len]; exact Nat.div_mul_le_self _ _)
  rw [h1]
  have h2 : m - m / w.length * w.length = m % w.length := by
    omega
  rw [h2]
  congr 1
  have hlt := Nat.mod_lt m hp
  cases hk : n - m / w.length with
  | zero =>
    have h3 : m ≤ m / w.length * w.length := by
      have e3 : n = m / w.length := by omega
      have h4 := h
      rw [e3] at h4
      exact h4
    have h5 : m % w.length = 0 := by omega
    rw [h5, rep_zero, List.take_zero, List.take_zero]
  | succ k => rw [rep_succ, List.take_append_of_le_length (by omega)]
theorem rep_take_count {w : List Nat} (hw : w ≠ []) {n m : Nat} (c : Nat) (h : m ≤ n * w.length) : ((rep w n).take m).count c = w.count c * (m / w.length) + (w.take (m % w.length)).count c := by
  rw [rep_take hw h, List.count_append, rep_count, Nat.mul_comm]

/-! ### texts by pieces -/
abbrev Pcs := List (List Nat × Nat)
def spell (ps : Pcs) : List Nat := (ps.map fun p => rep p.1 p.2).flatten
theorem spell_nil : spell [] = [] := rfl
theorem spell_cons (p : List Nat × Nat) (ps : Pcs) : spell (p :: ps) = rep p.1 p.2 ++ spell ps := by unfold spell; rw [List.map_cons, List.flatten_cons]
theorem spell_app (ps qs : Pcs) : spell (ps ++ qs) = spell ps ++ spell qs := by unfold spell; rw [List.map_append, List.flatten_append]
def size (ps : Pcs) : Nat := (ps.map fun p => p.1.length * p.2).sum
theorem spell_len (ps : Pcs) : (spell ps).length = size ps := by
  induction ps with
  | nil => rfl
  | cons p ps ih => rw [spell_cons, List.length_append, ih, rep_len]; unfold size; rw [List.map_cons, List.sum_cons, Nat.mul_comm]
theorem size_cons (p : List Nat × Nat) (ps : Pcs) : size (p :: ps) = p.1.length * p.2 + size ps := rfl
theorem size_take_succ (ps : Pcs) : ∀ {i : Nat} {p}, ps[i]? = some p → size (ps.take (i + 1)) = size (ps.take i) + p.1.length * p.2 := by
  induction ps with
  | nil => intro i p h; simp at h
  | cons q ps ih =>
    intro i p h
    cases i with
    | zero =>
      have e : q = p := by simpa using h
      subst e
      simp [size]
    | succ i =>
      have := ih (i := i) (p := p) (by simpa using h)
      rw [List.take_succ_cons, size_cons, this, List.take_succ_cons, size_cons, Nat.add_assoc]
theorem size_take_le (ps : Pcs) (i : Nat) : size (ps.take i) ≤ size ps := by
  induction ps generalizing i with
  | nil => simp
  | cons q ps ih =>
    cases i with
    | zero => simp [size]
    | succ i => rw [List.take_succ_cons, size_cons, size_cons]; have := ih i; omega

/-- small letters -/
def alpha : List Nat := [97, 98, 99, 100, 101, 102, 103, 104, 105, 106, 107, 108, 109, 110, 111, 112, 113, 114, 115, 116, 117, 118, 119, 120, 121, 122]
theorem tx_alpha : tx alpha = ("abcdefghijklmnopqrstuvwxyz" : Str) := by decide +kernel
def Plain (w : List Nat) : Prop := w.all (alpha.contains ·) = true
def Word (w : List Nat) : Prop := Plain w ∧ w ≠ [] ∧ w.length ≤ 60
structure Good (ps : Pcs) : Prop where
  few : ps.length ≤ 40
  ok : ∀ p ∈ ps, Word p.1 ∧ 1 ≤ p.2
  all : size ps ≤ 10 ^ 30

/-! ### things -/
inductive Dt where
  | non | bl (b : Bool) | int (i : Int) | str (w : List Nat) | lst (xs : List Dt) | tup (xs : List Dt) | dic
mutual
def At (K : PySem.W.Frag) (H : Hp) : V → Dt → Prop
  | v, .non => v = .non
  | v, .bl b => v = .bl b
  | v, .int i => v = .int i
  | v, .str w => v = .str (tx w) ∧ w.length ≤ 1000000
  | v, .lst ds => ∃ a xs, v = .ref a ∧ SqL K H a xs ∧ Ats K H xs ds
  | v, .tup ds => ∃ a xs, v = .ref a ∧ SqT K H a xs ∧ Ats K H xs ds
  | v, .dic => ∃ a, v = .ref a ∧ H a = some (.dK [])
def Ats (K : PySem.W.Frag) (H : Hp) : List V → List Dt → Prop
  | vs, [] => vs = []
  | vs, d :: ds => ∃ v us, vs = v :: us ∧ At K H v d ∧ Ats K H us ds
end
section
variable {K : PySem.W.Frag} {H H' : Hp}
mutual
theorem At.same (e : Same H H') : ∀ (d : Dt) (v : V), At K H v d → At K H' v d
  | .non, v, h => by unfold At at h ⊢; exact h
  | .bl _, v, h => by unfold At at h ⊢; exact h
  | .int _, v, h => by unfold At at h ⊢; exact h
  | .str _, v, h => by unfold At at h ⊢; exact h
  | .lst ds, v, h => by
    unfold At at h ⊢
    obtain ⟨a, xs, rfl, h1, h2⟩ := h
    exact ⟨a, xs, rfl, e.seq h1, Ats.same e ds xs h2⟩
  | .tup ds, v, h => by
    unfold At at h ⊢
    obtain ⟨a, xs, rfl, h1, h2⟩ := h
    exact ⟨a, xs, rfl, sameT e h1, Ats.same e ds xs h2⟩
  | .dic, v, h => by
    unfold At at h ⊢
    obtain ⟨a, rfl, h1⟩ := h
    exact ⟨a, rfl, e _ _ h1⟩
theorem Ats.same (e : Same H H') : ∀ (ds : List Dt) (vs : List V), Ats K H vs ds → Ats K H' vs ds
  | [], vs, h => by unfold Ats at h ⊢; exact h
  | d :: ds, vs, h => by
    unfold Ats at h ⊢
    obtain ⟨v, us, rfl, h1, h2⟩ := h
    exact ⟨v, us, rfl, At.same e d v h1, Ats.same e ds us h2⟩
end
theorem Ats.len : ∀ {ds : List Dt} {vs : List V}, Ats K H vs ds → vs.length = ds.length
  | [], vs, h => by unfold Ats at h; subst h; rfl
  | d :: ds, vs, h => by
    unfold Ats at h
    obtain ⟨v, us, rfl, _, h2⟩ := h
    rw [List.length_cons, List.length_cons, h2.len]
theorem Ats.get : ∀ {ds : List Dt} {vs : List V} {i : Nat} {d : Dt}, Ats K H vs ds → ds[i]? = some d → ∃ v, vs[i]? = some v ∧ At K H v d
  | [], vs, i, d, h, e => by simp at e
  | c :: ds, vs, i, d, h, e => by
    unfold Ats at h
    obtain ⟨v, us, rfl, h1, h2⟩ := h
    cases i with
    | zero =>
      have : c = d := by simpa using e
      subst this
      exact ⟨v, rfl, h1⟩
    | succ i => exact h2.get (by simpa using e)
end
/-- the type's name -/
def Dt.ty : Dt → String
  | .non => "NoneType"
  | .bl _ => "bool"
  | .int _ => "int"
  | .str _ => "str"
  | .lst _ => "list"
  | .tup _ => "tuple"
  | .dic => "dict"
theorem ty_known (d : Dt) : d.ty ∈ knownTy := by cases d <;> simp [Dt.ty, knownTy]
theorem At.ty {K : PySem.W.Frag} {H : Hp} {v : V} {d : Dt} (h : At K H v d) : TyB K H v d.ty := by
  cases d with
  | non => unfold At at h; subst h; exact .non
  | bl b => unfold At at h; subst h; exact .bl b
  | int i => unfold At at h; subst h; exact .int i
  | str w => unfold At at h; obtain ⟨rfl, _⟩ := h; exact .str _
  | lst ds => unfold At at h; obtain ⟨a, xs, rfl, h1, _⟩ := h; exact .lst h1
  | tup ds => unfold At at h; obtain ⟨a, xs, rfl, h1, _⟩ := h; exact .tup h1
  | dic => unfold At at h; obtain ⟨a, rfl, h1⟩ := h; exact .dK h1
/-- what is_row, is_whole, .. tell -/
def isRow : Dt → Bool
  | .lst _ => true
  | .tup _ => true
  | _ => false
def Dt.items : Dt → List Dt
  | .lst ds => ds
  | .tup ds => ds
  | _ => []
def isWhole (d : Dt) (lo : Int) : Bool := match d with
  | .int i => decide (lo ≤ i)
  | _ => false
def isWithin (d : Dt) (lo hi : Int) : Bool := match d with
  | .int i => decide (lo ≤ i) && decide (i ≤ hi)
  | _ => false
def isPlain : Dt → Bool
  | .str w => w.all (alpha.contains ·)
  | _ => false
def isLetter : Dt → Bool
  | .str w => w.all (alpha.contains ·) && decide (w.length = 1)
  | _ => false
def isClip : Dt → Bool
  | .str w => w.all (alpha.contains ·) && decide (w.length ≤ 60)
  | _ => false
def isWord : Dt → Bool
  | .str w => w.all (alpha.contains ·) && decide (w.length ≤ 60) && decide (w ≠ [])
  | _ => false
def isPiece (d : Dt) : Bool := isRow d && (match d.items with
  | [a, b] => isWord a && isWhole b 1
  | _ => false)
def pieceSize (d : Dt) : Int := match d.items with
  | [.str w, .int n] => (w.length : Int) * n
  | _ => 0
def isText (d : Dt) : Bool := isRow d && decide (d.items.length ≤ 40) && d.items.all isPiece && decide ((d.items.map pieceSize).sum ≤ 10 ^ 30)
/-- a text's pieces -/
def pcOf (d : Dt) : List Nat × Nat := match d.items with
  | [.str w, .int n] => (w, n.toNat)
  | _ => ([], 0)
def pcs (d : Dt) : Pcs := d.items.map pcOf
theorem isPiece_of {d : Dt} (h : isPiece d = true) : ∃ w n, d.items = [.str w, .int n] ∧ isRow d = true ∧ Word w ∧ 1 ≤ n := by
  unfold isPiece at h
  rw [Bool.and_eq_true] at h
  obtain ⟨h1, h2⟩ := h
  split at h2
  · rename_i a b e
    rw [Bool.and_eq_true] at h2
    obtain ⟨h3, h4⟩ := h2
    cases a with
    | str w =>
      cases b with
      | int n =>
        unfold isWord at h3
        unfold isWhole at h4
        simp only [Bool.and_eq_true, decide_eq_true_eq] at h3 h4
        exact ⟨w, n, e, h1, ⟨h3.1.1, h3.2, h3.1.2⟩, h4⟩
      | _ => simp [isWhole] at h4
    | _ => simp [isWord] at h3
  · cases h2
theorem sum_size : ∀ {ds : List Dt}, ds.all isPiece = true → (ds.map pieceSize).sum = (size (ds.map pcOf) : Int)
  | [], _ => rfl
  | d :: ds, h => by
    rw [List.all_cons, Bool.and_eq_true] at h
    obtain ⟨w, n, e, _, _, hn⟩ := isPiece_of h.1
    rw [List.map_cons, List.sum_cons, sum_size h.2, List.map_cons, size_cons]
    have e1 : pieceSize d = (w.length : Int) * n := by unfold pieceSize; rw [e]
    have e2 : pcOf d = (w, n.toNat) := by unfold pcOf; rw [e]
    rw [e1, e2, Int.natCast_add, Int.natCast_mul, Int.toNat_of_nonneg (by omega)]
theorem Good.of {d : Dt} (h : isText d = true) : Good (pcs d) := by
  unfold isText at h
  simp only [Bool.and_eq_true, decide_eq_true_eq] at h
  obtain ⟨⟨⟨h1, h2⟩, h3⟩, h4⟩ := h
  refine ⟨by unfold pcs; rw [List.length_map]; exact h2, fun p hp => ?_, ?_⟩
  · unfold pcs at hp
    obtain ⟨e, he, rfl⟩ := List.mem_map.mp hp
    obtain ⟨w, n, e1, _, hw, hn⟩ := isPiece_of (List.all_eq_true.mp h3 e he)
    have e2 : pcOf e = (w, n.toNat) := by unfold pcOf; rw [e1]
    rw [e2]
    exact ⟨hw, by show 1 ≤ n.toNat; omega⟩
  · rw [sum_size h3] at h4
    unfold pcs
    have : ((10 ^ 30 : Nat) : Int) = (10 ^ 30 : Int) := by decide
    omega

/-! ### a text in the heap, by its pieces -/
def PieceAt (K : PySem.W.Frag) (H : Hp) (v : V) (p : List Nat × Nat) : Prop := ∃ a, v = .ref a ∧ Row K H a [.str (tx p.1), .int p.2]
def TextAt (K : PySem.W.Frag) (H : Hp) (v : V) (ps : Pcs) : Prop := ∃ a xs, v = .ref a ∧ Row K H a xs ∧ Paired (PieceAt K H) xs ps
theorem prd_same {α β : Type} {R S : α → β → Prop} (f : ∀ a b, R a b → S a b) : ∀ {xs : List α} {ys : List β}, Paired R xs ys → Paired S xs ys
  | _, _, .nil => .nil
  | _, _, .cons h t => .cons (f _ _ h) (prd_same f t)
theorem PieceAt.same {K : PySem.W.Frag} {H H' : Hp} {v : V} {p} (e : Same H H') (h : PieceAt K H v p) : PieceAt K H' v p := by
  obtain ⟨a, rfl, h⟩ := h
  exact ⟨a, rfl, h.same e⟩
theorem TextAt.same {K : PySem.W.Frag} {H H' : Hp} {v : V} {ps} (e : Same H H') (h : TextAt K H v ps) : TextAt K H' v ps := by
  obtain ⟨a, xs, rfl, h1, h2⟩ := h
  exact ⟨a, xs, rfl, h1.same e, prd_same (fun _ _ => PieceAt.same e) h2⟩
theorem at_row {K : PySem.W.Frag} {H : Hp} {v : V} {d : Dt} (h : At K H v d) (hr : isRow d = true) : ∃ a xs, v = .ref a ∧ Row K H a xs ∧ Ats K H xs d.items := by
  cases d with
  | lst ds => unfold At at h; obtain ⟨a, xs, rfl, h1, h2⟩ := h; exact ⟨a, xs, rfl, .inl h1, h2⟩
  | tup ds => unfold At at h; obtain ⟨a, xs, rfl, h1, h2⟩ := h; exact ⟨a, xs, rfl, .inr h1, h2⟩
  | _ => simp [isRow] at hr
theorem pieceAt_of {K : PySem.W.Frag} {H : Hp} {v : V} {d : Dt} (h : At K H v d) (hp : isPiece d = true) : PieceAt K H v (pcOf d) := by
  obtain ⟨w, n, e, hr, hw, hn⟩ := isPiece_of hp
  obtain ⟨a, xs, rfl, h1, h2⟩ := at_row h hr
  rw [e] at h2
  unfold Ats at h2
  obtain ⟨v1, us, rfl, g1, h2⟩ := h2
  unfold Ats at h2
  obtain ⟨v2, us, rfl, g2, h2⟩ := h2
  unfold Ats at h2
  subst h2
  unfold At at g1 g2
  obtain ⟨rfl, _⟩ := g1
  subst g2
  have e2 : pcOf d = (w, n.toNat) := by unfold pcOf; rw [e]
  rw [e2]
  refine ⟨a, rfl, ?_⟩
  show Row K H a [.str (tx w), .int (n.toNat : Int)]
  rw [Int.toNat_of_nonneg (by omega)]
  exact h1
theorem textAt_of {K : PySem.W.Frag} {H : Hp} {v : V} {d : Dt} (h : At K H v d) (ht : isText d = true) : TextAt K H v (pcs d) := by
  unfold isText at ht
  simp only [Bool.and_eq_true, decide_eq_true_eq] at ht
  obtain ⟨⟨⟨h1, h2⟩, h3⟩, h4⟩ := ht
  obtain ⟨a, xs, rfl, g1, g2⟩ := at_row h h1
  refine ⟨a, xs, rfl, g1, ?_⟩
  unfold pcs
  generalize hd : d.items = ds at g2 h3
  clear hd h4 h1 h2 g1 h
  induction ds generalizing xs with
  | nil => unfold Ats at g2; subst g2; exact .nil
  | cons c ds ih =>
    unfold Ats at g2
    obtain ⟨v, us, rfl, k1, k2⟩ := g2
    rw [List.all_cons, Bool.and_eq_true] at h3
    exact .cons (pieceAt_of k1 h3.1) (ih us k2 h3.2)
theorem prd_at {α β : Type} {R : α → β → Prop} {xs : List α} {ys : List β} (h : Paired R xs ys) : ∀ {i : Nat} {x : α}, xs[i]? = some x → ∃ y, ys[i]? = some y ∧ R x y := by
  induction h with
  | nil => intro i x e; simp at e
  | cons h t ih =>
    intro i x e
    cases i with
    | zero =>
      have := Option.some.inj e
      subst this
      exact ⟨_, rfl, h⟩
    | succ i => exact ih (by simpa using e)
theorem prd_len {α β : Type} {R : α → β → Prop} {xs : List α} {ys : List β} (h : Paired R xs ys) : xs.length = ys.length := Paired.length h

theorem at_ofA {α : Type} {xs : List α} {z : Int} {j : Nat} {v : α} (e : z = (j : Int)) (h : xs[j]? = some v) : atI xs z = some v := by
  rw [e]
  exact atI_nat h
/-! ### readings over rows -/
section
variable {K : PySem.W.Frag} {H : Hp} {a : Addr} {xs : List V}
theorem ix_row {i : Int} {x : V} {Q : VK} (h : Row K H a xs) (e : atI xs i = some x) (q : Q x H) : rIx K (.ref a) (.int i) H Q := by
  rcases h with h | h
  · exact .inl ⟨a, xs, i, x, rfl, rfl, h, e, q⟩
  · exact .inr (.inl ⟨a, xs, i, x, rfl, rfl, h, e, q⟩)
theorem ix_lst {i : Int} {x : V} {Q : VK} (h : H a = some (.lst xs)) (e : atI xs i = some x) (q : Q x H) : rIx K (.ref a) (.int i) H Q := ix_row (.inl (SqL.of h)) e q
theorem ix_tx {z : List Nat} {i : Int} {c : Nat} {Q : VK} (h : z.length ≤ 1000000) (e : atI z i = some c) (q : Q (.str (tx [c])) H) : rIx K (.str (tx z)) (.int i) H Q :=
  .inr (.inr ⟨tx z, i, c, rfl, rfl, by rw [tx_len]; exact Nat.le_trans h (by decide), by rw [tx_cps]; exact e, q⟩)
theorem len_row {Q : VK} (h : Row K H a xs) (q : Q (.int xs.length) H) : rLenA K [.ref a] H Q := .inl ⟨a, xs, rfl, h, q⟩
theorem len_tx {w : List Nat} {Q : VK} (h : w.length ≤ 1000000) (q : Q (.int w.length) H) : rLenA K [.str (tx w)] H Q :=
  .inr ⟨tx w, rfl, by rw [tx_len]; exact Nat.le_trans h (by decide), by rw [tx_len]; exact q⟩
end
theorem Ats.at {K : PySem.W.Frag} {H : Hp} : ∀ {ds : List Dt} {vs : List V} {i : Nat} {v : V}, Ats K H vs ds → vs[i]? = some v → ∃ d, ds[i]? = some d ∧ At K H v d
  | [], vs, i, v, h, e => by unfold Ats at h; subst h; simp at e
  | c :: ds, vs, i, v, h, e => by
    unfold Ats at h
    obtain ⟨x, us, rfl, h1, h2⟩ := h
    cases i with
    | zero =>
      have : x = v := by simpa using e
      subst this
      exact ⟨c, rfl, h1⟩
    | succ i => exact h2.at (by simpa using e)
theorem isum_take : ∀ {l : List Int} {i : Nat} {z : Int}, l[i]? = some z → (l.take (i + 1)).sum = (l.take i).sum + z := sum_take
theorem all_take_succ {α : Type} {p : α → Bool} {l : List α} {i : Nat} {x : α} (h : (l.take i).all p = true) (e : l[i]? = some x) (hx : p x = true) : (l.take (i + 1)).all p = true := by
  rw [List.take_add_one, e, List.all_append, h]
  simp [hx]
end BK

namespace BK
open PySem PySem.Spec PyProof.Rows L2

/-! ### stretches of a word again and again -/
def cyc (w : List Nat) (at_ many : Nat) : List Nat := ((rep w ((at_ % w.length + many) / w.length + 1)).drop (at_ % w.length)).take many
theorem cyc_get {w : List Nat} (hw : w ≠ []) (a m i : Nat) (h : i < m) : (cyc w a m)[i]? = w[(a + i) % w.length]? := by
  have hp : 0 < w.length := List.length_pos_iff.mpr hw
  unfold cyc
  rw [List.getElem?_take, if_pos h, List.getElem?_drop, rep_get]
  · rw [Nat.mod_add_mod]
  · have h1 := Nat.lt_div_mul_add (a := a % w.length + m) hp
    rw [Nat.add_mul, Nat.one_mul]
    omega
theorem drop_rep {w : List Nat} (hw : w ≠ []) {n a m : Nat} (h : a + m ≤ n * w.length) : ((rep w n).drop a).take m = cyc w a m := by
  apply List.ext_getElem?
  intro i
  by_cases hi : i < m
  · rw [cyc_get hw a m i hi, List.getElem?_take, if_pos hi, List.getElem?_drop, rep_get _ _ _ (by omega)]
  · have hp : 0 < w.length := List.length_pos_iff.mpr hw
    rw [List.getElem?_take, if_neg hi]
    unfold cyc
    rw [List.getElem?_take, if_neg hi]
theorem cyc_len {w : List Nat} (hw : w ≠ []) (a m : Nat) : (cyc w a m).length = m := by
  have hp : 0 < w.length := List.length_pos_iff.mpr hw
  unfold cyc
  rw [List.length_take, List.length_drop, rep_len]
  have h1 := Nat.lt_div_mul_add (a := a % w.length + m) hp
  rw [Nat.add_mul, Nat.one_mul]
  omega

theorem rep_mem {x : List Nat} {c : Nat} : ∀ {n : Nat}, c ∈ rep x n → c ∈ x
  | 0, h => by cases h
  | n + 1, h => by
    rw [rep_succ] at h
    rcases List.mem_append.mp h with h | h
    · exact h
    · exact rep_mem h
/-! ### spans -/
abbrev Span := Nat × Nat × List Nat
def spansOf : Nat → Pcs → List Span
  | _, [] => []
  | s, p :: ps => (s, s + p.1.length * p.2, p.1) :: spansOf (s + p.1.length * p.2) ps
theorem spansOf_len : ∀ (ps : Pcs) (s : Nat), (spansOf s ps).length = ps.length
  | [], _ => rfl
  | p :: ps, s => by unfold spansOf; rw [List.length_cons, spansOf_len ps, List.length_cons]
theorem spansOf_get : ∀ (ps : Pcs) (s i : Nat) (p), ps[i]? = some p → (spansOf s ps)[i]? = some (s + size (ps.take i), s + size (ps.take i) + p.1.length * p.2, p.1)
  | [], s, i, p, h => by simp at h
  | q :: ps, s, 0, p, h => by
    have : q = p := by simpa using h
    subst this
    simp [spansOf, size]
  | q :: ps, s, i + 1, p, h => by
    unfold spansOf
    rw [List.getElem?_cons_succ, spansOf_get ps _ i p (by simpa using h), List.take_succ_cons, size_cons]
    simp only [Nat.add_assoc]
theorem spansOf_at (ps : Pcs) {i : Nat} {x : Span} (h : (spansOf 0 ps)[i]? = some x) : ∃ p, ps[i]? = some p ∧ x = (size (ps.take i), size (ps.take i) + p.1.length * p.2, p.1) := by
  have hl := (List.getElem?_eq_some_iff.mp h).1
  rw [spansOf_len] at hl
  refine ⟨ps[i], List.getElem?_eq_getElem hl, ?_⟩
  have := spansOf_get ps 0 i ps[i] (List.getElem?_eq_getElem hl)
  rw [this] at h
  have := Option.some.inj h
  rw [← this]
  simp only [Nat.zero_add]
def SpanAt (H : Hp) (v : V) (x : Span) : Prop := ∃ a, v = .ref a ∧ H a = some (.tup [.int x.1, .int x.2.1, .str (tx x.2.2)])
def SpansAt (H : Hp) (a : Addr) (xs : List Span) : Prop := ∃ us, H a = some (.lst us) ∧ Paired (SpanAt H) us xs
theorem SpanAt.same {H H' : Hp} {v : V} {x : Span} (e : Same H H') (h : SpanAt H v x) : SpanAt H' v x := by
  obtain ⟨a, rfl, h⟩ := h
  exact ⟨a, rfl, e _ _ h⟩
theorem SpansAt.same {H H' : Hp} {a : Addr} {xs : List Span} (e : Same H H') (h : SpansAt H a xs) : SpansAt H' a xs := by
  obtain ⟨us, h1, h2⟩ := h
  exact ⟨us, e _ _ h1, prd_same (fun _ _ => SpanAt.same e) h2⟩
theorem SpanAt.upd {H : Hp} {v : V} {x : Span} {o : Addr} {us vs : List V} (ho : H o = some (.lst us)) (h : SpanAt H v x) : SpanAt (upd H o (.lst vs)) v x := by
  obtain ⟨a, rfl, h⟩ := h
  exact ⟨a, rfl, by rw [upd_ne (ne_of h ho (by intro z; cases z))]; exact h⟩
theorem prd_snoc {α β : Type} {R : α → β → Prop} {xs : List α} {ys : List β} {x : α} {y : β} (h : Paired R xs ys) (hxy : R x y) : Paired R (xs ++ [x]) (ys ++ [y]) := by
  induction h with
  | nil => exact .cons hxy .nil
  | cons a t ih => exact .cons a ih
theorem same_mut {H H' : Hp} {p : Addr} {o : HO} (e : Same H H') (h : H p = none) : Same H (upd H' p o) := fun a u ha => by
  rw [upd_ne (ne_of_none ha h)]
  exact e a u ha
/-- the spans' end -/
theorem spansOf_last {ps : Pcs} (h : ps ≠ []) : ∃ p s, ps.getLast? = some p ∧ (spansOf 0 ps).getLast? = some (s, size ps, p.1) := by
  have hp : 0 < ps.length := List.length_pos_iff.mpr h
  have e := List.getElem?_eq_getElem (l := ps) (i := ps.length - 1) (by omega)
  refine ⟨ps[ps.length - 1], size (ps.take (ps.length - 1)), by rw [List.getLast?_eq_getElem?, e], ?_⟩
  rw [List.getLast?_eq_getElem?, spansOf_len, spansOf_get ps 0 _ _ e, Nat.zero_add, ← size_take_succ ps e, show ps.length - 1 + 1 = ps.length by omega, List.take_length]

/-! ### looks, counts, so-manieths of what is spelled -/
theorem spell_take_succ {ps : Pcs} {i : Nat} {p} (h : ps[i]? = some p) : spell (ps.take (i + 1)) = spell (ps.take i) ++ rep p.1 p.2 := by
  rw [List.take_add_one, h, spell_app]
  show _ ++ spell [p] = _
  rw [spell_cons, spell_nil, List.append_nil]
theorem look_app (A B : List Nat) (p m : Nat) : ((A ++ B).drop p).take m = (A.drop p).take m ++ (B.drop (max A.length p - A.length)).take (min (A.length + B.length) (p + m) - max A.length p) := by
  rw [List.drop_append, List.take_append, List.length_drop]
  congr 1
  rw [show max A.length p - A.length = p - A.length by omega]
  by_cases h : m - (A.length - p) ≤ B.length - (p - A.length)
  · congr 1
    omega
  · rw [List.take_of_length_le (by rw [List.length_drop]; omega), List.take_of_length_le (by rw [List.length_drop]; omega)]
theorem count_app (A B : List Nat) (c m : Nat) : ((A ++ B).take m).count c = (A.take m).count c + (B.take (min (A.length + B.length) m - A.length)).count c := by
  rw [List.take_append, List.count_append]
  congr 2
  by_cases h : m - A.length ≤ B.length
  · congr 1
    omega
  · rw [List.take_of_length_le (by omega), List.take_of_length_le (by omega)]
/-- the places of a sign -/
def pos (w : List Nat) (c : Nat) : List Nat := (List.range w.length).filter fun i => w[i]? == some c
def IsNth (l : List Nat) (c k i : Nat) : Prop := l[i]? = some c ∧ (l.take i).count c = k
theorem posTo (w : List Nat) (c : Nat) : ∀ n, n ≤ w.length → ((List.range n).filter fun i => w[i]? == some c).length = (w.take n).count c ∧
    ∀ k i, ((List.range n).filter fun i => w[i]? == some c)[k]? = some i → IsNth w c k i
  | 0, _ => ⟨by simp, fun k i h => by simp at h⟩
  | n + 1, hn => by
    obtain ⟨ih1, ih2⟩ := posTo w c n (by omega)
    rw [List.range_succ, List.filter_append]
    have hg : w[n]? = some w[n] := List.getElem?_eq_getElem (by omega)
    by_cases hc : w[n] = c
    · have e : (List.filter (fun i => w[i]? == some c) [n]) = [n] := by
        rw [List.filter_cons, hg, hc]
        simp
      rw [e]
      have hcount : (w.take (n + 1)).count c = (w.take n).count c + 1 := by
        rw [List.take_add_one, hg, List.count_append, hc]
        simp
      refine ⟨by rw [List.length_append, ih1, hcount]; rfl, fun k i h => ?_⟩
      by_cases hk : k < ((List.range n).filter fun i => w[i]? == some c).length
      · rw [List.getElem?_append_left hk] at h
        exact ih2 k i h
      · rw [List.getElem?_append_right (by omega)] at h
        have hk0 : k - ((List.range n).filter fun i => w[i]? == some c).length = 0 := by
          have := (List.getElem?_eq_some_iff.mp h).1
          simp at this
          omega
        rw [hk0] at h
        have hi : n = i := by simpa using h
        subst hi
        refine ⟨by rw [hg, hc], ?_⟩
        rw [← ih1]
        omega
    · have e : (List.filter (fun i => w[i]? == some c) [n]) = [] := by
        rw [List.filter_cons, hg]
        simp [hc]
      rw [e, List.append_nil]
      have hcount : (w.take (n + 1)).count c = (w.take n).count c := by
        rw [List.take_add_one, hg, List.count_append]
        simp [hc]
      exact ⟨by rw [ih1, hcount], ih2⟩
theorem pos_len (w : List Nat) (c : Nat) : (pos w c).length = w.count c := by
  have := (posTo w c w.length (Nat.le_refl _)).1
  rw [List.take_length] at this
  exact this
theorem pos_get {w : List Nat} {c k i : Nat} (h : (pos w c)[k]? = some i) : IsNth w c k i := (posTo w c w.length (Nat.le_refl _)).2 k i h
theorem nth_rep {w : List Nat} {c q r i n : Nat} (h : IsNth w c r i) (hq : q < n) : IsNth (rep w n) c (q * w.count c + r) (q * w.length + i) := by
  have hi := (List.getElem?_eq_some_iff.mp h.1).1
  have e : n = q + ((n - q - 1) + 1) := by omega
  rw [e, rep_add, rep_succ]
  constructor
  · rw [List.getElem?_append_right (by rw [rep_len]; omega), rep_len, show q * w.length + i - q * w.length = i by omega, List.getElem?_append_left hi]
    exact h.1
  · rw [List.take_append, rep_len, List.count_append, List.take_of_length_le (by rw [rep_len]; omega), rep_count, show q * w.length + i - q * w.length = i by omega, List.take_append_of_le_length (by omega), h.2]
theorem nth_app_right {A B : List Nat} {c k i : Nat} (h : IsNth B c k i) : IsNth (A ++ B) c (A.count c + k) (A.length + i) := by
  constructor
  · rw [List.getElem?_append_right (by omega), show A.length + i - A.length = i by omega]
    exact h.1
  · rw [List.take_append, List.count_append, List.take_of_length_le (by omega), show A.length + i - A.length = i by omega, h.2]
theorem nth_app_left {A B : List Nat} {c k i : Nat} (h : IsNth A c k i) : IsNth (A ++ B) c k i := by
  have hi := (List.getElem?_eq_some_iff.mp h.1).1
  exact ⟨by rw [List.getElem?_append_left hi]; exact h.1, by rw [List.take_append_of_le_length (by omega)]; exact h.2⟩
theorem sum_le_len : ∀ (ss : List (List Nat)), (ss.map (·.length)).sum = ss.flatten.length
  | [] => rfl
  | a :: r => by rw [List.map_cons, List.sum_cons, sum_le_len r, List.flatten_cons, List.length_append]
end BK

namespace BK
open PySem PySem.Spec PyProof.Rows L2

/-! ### two rows of letters that go round -/
theorem two_rounds {u v : Nat → Option Nat} {p q low high : Nat} (hp : 0 < p) (hq : 0 < q) (hu : ∀ i, low ≤ i → i + p < high → u (i + p) = u i) (hv : ∀ i, low ≤ i → i + q < high → v (i + q) = v i)
    (h : ∀ i, low ≤ i → i < low + p + q → i < high → u i = v i) : ∀ n i, i ≤ n → low ≤ i → i < high → u i = v i
  | 0, i, hn, hl, hh => h i hl (by omega) hh
  | n + 1, i, hn, hl, hh => by
    by_cases hi : i < low + p + q
    · exact h i hl hi hh
    · have ih := two_rounds hp hq hu hv h n
      have e1 : u i = u (i - p) := by
        have := hu (i - p) (by omega) (by omega)
        rwa [show i - p + p = i by omega] at this
      have e2 := ih (i - p) (by omega) (by omega) (by omega)
      have e3 : v (i - p) = v (i - p - q) := by
        have := hv (i - p - q) (by omega) (by omega)
        rwa [show i - p - q + q = i - p by omega] at this
      have e4 := ih (i - p - q) (by omega) (by omega) (by omega)
      have e5 : u (i - q) = u (i - p - q) := by
        have := hu (i - p - q) (by omega) (by omega)
        rwa [show i - p - q + p = i - q by omega] at this
      have e6 := ih (i - q) (by omega) (by omega) (by omega)
      have e7 : v i = v (i - q) := by
        have := hv (i - q) (by omega) (by omega)
        rwa [show i - q + q = i by omega] at this
      rw [e1, e2, e3, ← e4, ← e5, e6, e7]
/-- between two ends a text is one word again and again, or has ended -/
def Round (A : List Nat) (low high : Nat) : Prop := ∃ p, 0 < p ∧ p ≤ 60 ∧ ∀ i, low ≤ i → i + p < high → A[i + p]? = A[i]?
theorem round_of : ∀ (ps : Pcs) (low high : Nat), (∀ x ∈ ps, x.1 ≠ [] ∧ x.1.length ≤ 60) → low < high → (∀ k, k < ps.length → size (ps.take (k + 1)) ≤ low ∨ high ≤ size (ps.take (k + 1))) →
    size ps ≤ low ∨ (high ≤ size ps ∧ Round (spell ps) low high)
  | [], low, high, _, _, _ => .inl (Nat.zero_le _)
  | x :: ps, low, high, hg, hlh, he => by
    have hx := hg x (List.mem_cons_self ..)
    have hp : 0 < x.1.length := List.length_pos_iff.mpr hx.1
    have e0 : size ((x :: ps).take (0 + 1)) = x.1.length * x.2 := by simp [size]
    have hmul : x.2 * x.1.length = x.1.length * x.2 := Nat.mul_comm _ _
    by_cases hl : low < x.1.length * x.2
    · have h1 := he 0 (by simp)
      rw [e0] at h1
      have h2 : high ≤ x.1.length * x.2 := by omega
      refine .inr ⟨by rw [size_cons]; omega, x.1.length, hp, hx.2, fun i h3 h4 => ?_⟩
      rw [spell_cons, List.getElem?_append_left (by rw [rep_len, hmul]; omega), List.getElem?_append_left (by rw [rep_len, hmul]; omega), rep_get _ _ _ (by rw [hmul]; omega), rep_get _ _ _ (by rw [hmul]; omega), Nat.add_mod_right]
    · have ih := round_of ps (low - x.1.length * x.2) (high - x.1.length * x.2) (fun y hy => hg y (List.mem_cons_of_mem _ hy)) (by omega) (fun k hk => by
        have := he (k + 1) (by rw [List.length_cons]; omega)
        rw [List.take_succ_cons, size_cons] at this
        omega)
      rcases ih with ih | ⟨ih1, p, ih2, ih3, ih4⟩
      · exact .inl (by rw [size_cons]; omega)
      · refine .inr ⟨by rw [size_cons]; omega, p, ih2, ih3, fun i h3 h4 => ?_⟩
        have := ih4 (i - x.1.length * x.2) (by omega) (by omega)
        rw [spell_cons, List.getElem?_append_right (by rw [rep_len, hmul]; omega), List.getElem?_append_right (by rw [rep_len, hmul]; omega), rep_len, hmul]
        rw [show i + p - x.1.length * x.2 = i - x.1.length * x.2 + p by omega]
        exact this
/-- told so far alike, and so on the next stretch: alike to the next end -/
theorem alike_on {A B : List Nat} {low high : Nat} (hlh : low ≤ high) (h0 : A.take low = B.take low)
    (hA : A.length ≤ low ∨ (high ≤ A.length ∧ Round A low high)) (hB : B.length ≤ low ∨ (high ≤ B.length ∧ Round B low high))
    (h : (A.drop low).take (min (high - low) 120) = (B.drop low).take (min (high - low) 120)) : A.take high = B.take high := by
  by_cases he : low = high
  · rw [← he]
    exact h0
  have hlt : low < high := by omega
  have hl := congrArg List.length h
  rw [List.length_take, List.length_take, List.length_drop, List.length_drop] at hl
  rcases hA with hA | ⟨hA, p, hp, hp2, hpA⟩
  · rcases hB with hB | ⟨hB, _⟩
    · rw [List.take_of_length_le hA, List.take_of_length_le hB] at h0
      rw [h0]
    · omega
  · rcases hB with hB | ⟨hB, q, hq, hq2, hqB⟩
    · omega
    · have hag : ∀ i, low ≤ i → i < low + p + q → i < high → A[i]? = B[i]? := fun i h1 h2 h3 => by
        have e := congrArg (fun l => l[i - low]?) h
        simp only [List.getElem?_take, List.getElem?_drop] at e
        rw [if_pos (by omega), if_pos (by omega), show low + (i - low) = i by omega] at e
        exact e
      have hall := two_rounds (u := fun i => A[i]?) (v := fun i => B[i]?) hp hq hpA hqB hag
      apply List.ext_getElem?
      intro i
      rw [List.getElem?_take, List.getElem?_take]
      by_cases hi : i < high
      · rw [if_pos hi, if_pos hi]
        by_cases hil : i < low
        · have e := congrArg (fun l => l[i]?) h0
          simp only [List.getElem?_take] at e
          rw [if_pos hil, if_pos hil] at e
          exact e
        · exact hall i i (Nat.le_refl _) (by omega) hi
      · rw [if_neg hi, if_neg hi]
/-- the first place at which two rows are unlike -/
def Unlike (A B : List Nat) (i : Nat) : Prop := A.take i = B.take i ∧ A[i]? ≠ B[i]?
theorem Unlike.symm {A B : List Nat} {i : Nat} (h : Unlike A B i) : Unlike B A i := ⟨h.1.symm, h.2.symm⟩
theorem Unlike.uniq {A B : List Nat} {i j : Nat} (h : Unlike A B i) (k : Unlike A B j) : i = j := by
  have key : ∀ {i j : Nat}, Unlike A B i → Unlike A B j → ¬ i < j := fun {i j} h k hlt => by
    have e := congrArg (fun l => l[i]?) k.1
    simp only [List.getElem?_take] at e
    rw [if_pos hlt, if_pos hlt] at e
    exact h.2 e
  have h1 := key h k
  have h2 := key k h
  omega
theorem Unlike.ne {A B : List Nat} {i : Nat} (h : Unlike A B i) : A ≠ B := fun z => h.2 (by rw [z])
theorem Unlike.le {A B : List Nat} {i : Nat} (h : Unlike A B i) : i ≤ max A.length B.length := by
  by_cases hi : i ≤ max A.length B.length
  · exact hi
  · exact absurd (by rw [List.getElem?_eq_none (by omega), List.getElem?_eq_none (by omega)]) h.2
theorem unlike_on {A B : List Nat} {low many at_ : Nat} (h0 : A.take low = B.take low) (h : Unlike ((A.drop low).take many) ((B.drop low).take many) at_) : Unlike A B (low + at_) := by
  obtain ⟨h1, h2⟩ := h
  have hlt : at_ < many := by
    by_cases hm : at_ < many
    · exact hm
    · refine absurd ?_ h2
      rw [List.getElem?_eq_none (by rw [List.length_take]; omega), List.getElem?_eq_none (by rw [List.length_take]; omega)]
  rw [List.take_take, List.take_take, Nat.min_eq_left (by omega)] at h1
  rw [List.getElem?_take, List.getElem?_take, if_pos hlt, if_pos hlt, List.getElem?_drop, List.getElem?_drop] at h2
  refine ⟨?_, h2⟩
  rw [List.take_add, List.take_add, h0, h1]
end BK

namespace BK
open PySem PySem.Spec PyProof.Rows L2
/-! ## keys and sheets -/
inductive Ky where
  | write (w : List Nat) | paste | left (n : Nat) | right (n : Nat) | strike (n : Nat) | rub (n : Nat) | copy (n : Nat) | cut (n : Nat)
def Ky.vs : Ky → List V
  | .write w => [.str "write", .str (tx w)]
  | .paste => [.str "paste"]
  | .left n => [.str "left", .int n]
  | .right n => [.str "right", .int n]
  | .strike n => [.str "strike", .int n]
  | .rub n => [.str "rub", .int n]
  | .copy n => [.str "copy", .int n]
  | .cut n => [.str "cut", .int n]
def Ky.wt : Ky → Nat
  | .write w => w.length
  | .paste => 1
  | .left n | .right n | .strike n | .rub n | .copy n | .cut n => n
def Ky.ok : Ky → Prop
  | .write w => w ≠ [] ∧ w.length ≤ 60 ∧ Plain w
  | .paste => True
  | .left n | .right n | .strike n | .rub n | .copy n | .cut n => 1 ≤ n
def hwt (ks : List Ky) : Nat := (ks.map Ky.wt).sum
structure GoodH (ks : List Ky) : Prop where
  ok : ∀ k ∈ ks, k.ok
  wt : hwt ks ≤ 60
theorem Ky.ok.pos : ∀ {k : Ky}, k.ok → 1 ≤ k.wt
  | .write w, h => List.length_pos_iff.mpr h.1
  | .paste, _ => Nat.le_refl _
  | .left n, h | .right n, h | .strike n, h | .rub n, h | .copy n, h | .cut n, h => h
theorem hwt_cons (k : Ky) (ks : List Ky) : hwt (k :: ks) = k.wt + hwt ks := by unfold hwt; rw [List.map_cons, List.sum_cons]
theorem hwt_app (as bs : List Ky) : hwt (as ++ bs) = hwt as + hwt bs := by unfold hwt; rw [List.map_append, List.sum_append]
theorem hwt_mem {k : Ky} {ks : List Ky} (h : k ∈ ks) : k.wt ≤ hwt ks := by
  induction ks with
  | nil => cases h
  | cons a as ih =>
    rw [hwt_cons]
    rcases List.mem_cons.mp h with rfl | h
    · omega
    · have := ih h; omega
theorem len_hwt : ∀ {ks : List Ky}, (∀ k ∈ ks, k.ok) → ks.length ≤ hwt ks
  | [], _ => Nat.zero_le _
  | k :: ks, h => by
    have h1 := (h k (List.mem_cons_self ..)).pos
    have h2 := len_hwt (ks := ks) fun x hx => h x (List.mem_cons_of_mem _ hx)
    rw [hwt_cons, List.length_cons]
    omega
theorem GoodH.few {ks : List Ky} (h : GoodH ks) : ks.length ≤ 60 := Nat.le_trans (len_hwt h.ok) h.wt

/-! ### what keys do: the nearest letter of a side stands last -/
section
variable {α β : Type}
def near (s : List α) (n : Nat) : List α := (s.drop (s.length - n)).reverse
def rest (s : List α) (n : Nat) : List α := s.take (s.length - n)
theorem near_len (s : List α) (n : Nat) : (near s n).length = min n s.length := by unfold near; rw [List.length_reverse, List.length_drop]; omega
theorem rest_len (s : List α) (n : Nat) : (rest s n).length = s.length - n := by unfold rest; rw [List.length_take]; omega
theorem near_map (f : α → β) (s : List α) (n : Nat) : near (s.map f) n = (near s n).map f := by unfold near; rw [List.length_map, List.map_reverse, List.map_drop]
theorem rest_map (f : α → β) (s : List α) (n : Nat) : rest (s.map f) n = (rest s n).map f := by unfold rest; rw [List.length_map, List.map_take]
structure Sd (α : Type) where
  l : List α
  r : List α
  c : List α
def Sd.map (f : α → β) (s : Sd α) : Sd β := ⟨s.l.map f, s.r.map f, s.c.map f⟩
def step (f : Nat → α) : Ky → Sd α → Sd α
  | .write w, s => ⟨s.l ++ w.map f, s.r, s.c⟩
  | .paste, s => ⟨s.l ++ s.c, s.r, s.c⟩
  | .left n, s => ⟨rest s.l n, s.r ++ near s.l n, s.c⟩
  | .right n, s => ⟨s.l ++ near s.r n, rest s.r n, s.c⟩
  | .strike n, s => ⟨s.l, rest s.r n, s.c⟩
  | .rub n, s => ⟨rest s.l n, s.r, s.c⟩
  | .copy n, s => ⟨s.l, s.r, near s.r n⟩
  | .cut n, s => ⟨s.l, rest s.r n, near s.r n⟩
theorem step_map (f : Nat → α) (g : α → β) : ∀ (k : Ky) (s : Sd α), step (fun n => g (f n)) k (s.map g) = (step f k s).map g
  | .write w, s => by
    show Sd.mk (s.l.map g ++ w.map fun n => g (f n)) _ _ = Sd.mk ((s.l ++ w.map f).map g) _ _
    rw [List.map_append, List.map_map]
    rfl
  | .paste, s => by
    show Sd.mk (s.l.map g ++ s.c.map g) _ _ = Sd.mk ((s.l ++ s.c).map g) _ _
    rw [List.map_append]
    rfl
  | .left n, s => by
    show Sd.mk (rest (s.l.map g) n) (s.r.map g ++ near (s.l.map g) n) _ = Sd.mk ((rest s.l n).map g) ((s.r ++ near s.l n).map g) _
    rw [List.map_append, near_map, rest_map]
    rfl
  | .right n, s => by
    show Sd.mk (s.l.map g ++ near (s.r.map g) n) (rest (s.r.map g) n) _ = Sd.mk ((s.l ++ near s.r n).map g) ((rest s.r n).map g) _
    rw [List.map_append, near_map, rest_map]
    rfl
  | .strike n, s => by
    show Sd.mk _ (rest (s.r.map g) n) _ = Sd.mk _ ((rest s.r n).map g) _
    rw [rest_map]
    rfl
  | .rub n, s => by
    show Sd.mk (rest (s.l.map g) n) _ _ = Sd.mk ((rest s.l n).map g) _ _
    rw [rest_map]
    rfl
  | .copy n, s => by
    show Sd.mk _ _ (near (s.r.map g) n) = Sd.mk _ _ ((near s.r n).map g)
    rw [near_map]
    rfl
  | .cut n, s => by
    show Sd.mk _ (rest (s.r.map g) n) (near (s.r.map g) n) = Sd.mk _ ((rest s.r n).map g) ((near s.r n).map g)
    rw [near_map, rest_map]
    rfl
def Sd.size (s : Sd α) : Nat := s.l.length + s.r.length
theorem step_size (f : Nat → α) : ∀ (k : Ky) (s : Sd α), k.wt ≤ 60 → s.c.length ≤ 60 → (step f k s).size ≤ s.size + 60 ∧ (step f k s).c.length ≤ 60
  | .write w, s, h, hc => by
    have h : w.length ≤ 60 := h
    unfold Sd.size step
    simp only [List.length_append, List.length_map]
    omega
  | .paste, s, h, hc => by
    unfold Sd.size step
    simp only [List.length_append]
    omega
  | .left n, s, h, hc | .right n, s, h, hc | .strike n, s, h, hc | .rub n, s, h, hc | .copy n, s, h, hc | .cut n, s, h, hc => by
    have h : n ≤ 60 := h
    unfold Sd.size step
    simp only [List.length_append, near_len, rest_len]
    omega
def steps (f : Nat → α) (ks : List Ky) (s : Sd α) : Sd α := ks.foldl (fun s k => step f k s) s
theorem steps_app (f : Nat → α) (as bs : List Ky) (s : Sd α) : steps f (as ++ bs) s = steps f bs (steps f as s) := by unfold steps; rw [List.foldl_append]
theorem steps_cons (f : Nat → α) (k : Ky) (ks : List Ky) (s : Sd α) : steps f (k :: ks) s = steps f ks (step f k s) := rfl
theorem steps_map (f : Nat → α) (g : α → β) : ∀ (ks : List Ky) (s : Sd α), steps (fun n => g (f n)) ks (s.map g) = (steps f ks s).map g
  | [], _ => rfl
  | k :: ks, s => by rw [steps_cons, steps_cons, step_map, steps_map f g ks]
theorem steps_size (f : Nat → α) : ∀ (ks : List Ky) (s : Sd α), (∀ k ∈ ks, k.wt ≤ 60) → s.c.length ≤ 60 → (steps f ks s).size ≤ s.size + 60 * ks.length ∧ (steps f ks s).c.length ≤ 60
  | [], s, _, hc => ⟨Nat.le_refl _, hc⟩
  | k :: ks, s, h, hc => by
    obtain ⟨h1, h2⟩ := step_size f k s (h k (List.mem_cons_self ..)) hc
    obtain ⟨h3, h4⟩ := steps_size f ks (step f k s) (fun x hx => h x (List.mem_cons_of_mem _ hx)) h2
    rw [steps_cons, List.length_cons]
    exact ⟨by omega, h4⟩
/-- so many pressings -/
def presses (f : Nat → α) (ks : List Ky) : Nat → Sd α → Sd α
  | 0, s => s
  | n + 1, s => presses f ks n (steps f ks s)
theorem presses_add (f : Nat → α) (ks : List Ky) : ∀ (m n : Nat) (s : Sd α), presses f ks (m + n) s = presses f ks n (presses f ks m s)
  | 0, n, s => by rw [Nat.zero_add]; rfl
  | m + 1, n, s => by
    rw [show m + 1 + n = (m + n) + 1 by omega]
    exact presses_add f ks m n (steps f ks s)
theorem presses_succ (f : Nat → α) (ks : List Ky) (n : Nat) (s : Sd α) : presses f ks (n + 1) s = steps f ks (presses f ks n s) := presses_add f ks n 1 s
theorem presses_map (f : Nat → α) (g : α → β) (ks : List Ky) : ∀ (n : Nat) (s : Sd α), presses (fun n => g (f n)) ks n (s.map g) = (presses f ks n s).map g
  | 0, _ => rfl
  | n + 1, s => by
    show presses _ ks n (steps _ ks (s.map g)) = _
    rw [steps_map, presses_map f g ks n]
    rfl
theorem presses_size (f : Nat → α) (ks : List Ky) (h : ∀ k ∈ ks, k.wt ≤ 60) (hl : ks.length ≤ 60) : ∀ (n : Nat) (s : Sd α), s.c.length ≤ 60 → (presses f ks n s).size ≤ s.size + 3600 * n ∧ (presses f ks n s).c.length ≤ 60
  | 0, s, hc => ⟨Nat.le_refl _, hc⟩
  | n + 1, s, hc => by
    obtain ⟨h1, h2⟩ := steps_size f ks s h hc
    obtain ⟨h3, h4⟩ := presses_size f ks h hl n (steps f ks s) h2
    exact ⟨by show (presses f ks n (steps f ks s)).size ≤ _; omega, h4⟩
end

/-! ### in the heap -/
def KeyAt (K : PySem.W.Frag) (H : Hp) (v : V) (k : Ky) : Prop := ∃ a, v = .ref a ∧ Row K H a k.vs
def HandAt (K : PySem.W.Frag) (H : Hp) (v : V) (ks : List Ky) : Prop := ∃ a xs, v = .ref a ∧ Row K H a xs ∧ Paired (KeyAt K H) xs ks
theorem KeyAt.same {K : PySem.W.Frag} {H H' : Hp} {v : V} {k} (e : Same H H') (h : KeyAt K H v k) : KeyAt K H' v k := by
  obtain ⟨a, rfl, h⟩ := h
  exact ⟨a, rfl, h.same e⟩
theorem HandAt.same {K : PySem.W.Frag} {H H' : Hp} {v : V} {ks} (e : Same H H') (h : HandAt K H v ks) : HandAt K H' v ks := by
  obtain ⟨a, xs, rfl, h1, h2⟩ := h
  exact ⟨a, xs, rfl, h1.same e, prd_same (fun _ _ => KeyAt.same e) h2⟩
/-- [f(x) for x in (a row that stands in slot j)] -/
theorem lc_rowN {K : PySem.W.Frag} {a : Addr} {xs ys : List V} {tt : TT} {te : TE} {vs : List Nat} {σ : L2.St} {H : Hp} {Q : VK} {j k : Nat} (hv : σ[j]? = some (some (.ref a))) (hr : Row K H a xs) (hl : xs.length = ys.length) (hz : ys.length < sizeLine)
    (hw : ∀ x, wipe ((wipe σ vs).set k (some x)) vs = wipe σ vs) (ht : ∀ σ H (R : Bool → Hp → Prop), R true H → tt σ H R)
    (hs : ∀ (i : Nat) (x y : V) (H' : Hp), xs[i]? = some x → ys[i]? = some y → Same H H' → ∀ R : VK, (∀ H4, Same H' H4 → R y H4) → te ((wipe σ vs).set k (some x)) H' R)
    (hd : ∀ D H', Same H H' → H D = none → H' D = some (.lst ys) → Q (.ref D) H') : tLc (iSeq K (tVar j)) (gName k) tt te vs σ H Q := by
  have st : ∀ D i x H', H D = none → xs[i]? = some x → Same H H' ∧ H' D = some (.lst (ys.take i)) → gName k x (wipe σ vs) H' fun σ2 H2 => wipe σ2 vs = wipe σ vs ∧ tt σ2 H2 fun b H3 =>
      if b = true then te σ2 H3 fun y H4 => ∃ acc, H4 D = some (.lst acc) ∧ acc.length < sizeLine ∧ (Same H (upd H4 D (.lst (acc ++ [y]))) ∧ (upd H4 D (.lst (acc ++ [y]))) D = some (.lst (ys.take (i + 1)))) else (Same H H3 ∧ H3 D = some (.lst (ys.take (i + 1)))) := by
    intro D i x H' nD hx ⟨s1, hD⟩
    have hi : i < ys.length := by
      rw [← hl]
      exact (List.getElem?_eq_some_iff.mp hx).1
    refine ⟨hw x, ht _ _ _ ?_⟩
    rw [if_pos rfl]
    refine hs i x ys[i] H' hx (List.getElem?_eq_getElem hi) s1 _ fun H4 s4 => ⟨_, s4 _ _ hD, ?_, same_mut (s1.trans s4) nD, ?_⟩
    · rw [List.length_take]
      omega
    · rw [upd_same, List.take_add_one, List.getElem?_eq_getElem hi]
      rfl
  have h0 : ∀ D, H D = none → Same H (upd H D (.lst [])) ∧ (upd H D (.lst [])) D = some (.lst (ys.take 0)) := fun D nD => ⟨same_upd nD, by rw [upd_same, List.take_zero]⟩
  have hq : ∀ D H', H D = none → Same H H' ∧ H' D = some (.lst (ys.take xs.length)) → Q (.ref D) H' := fun D H' nD ⟨s1, h1⟩ => hd D H' s1 nD (by rw [h1, hl, List.take_length])
  rcases hr with hr | hr
  · exact .inl ⟨_, hv, a, rfl, ⟨_, hr⟩, fun D nD => L2.lc_list (K := K) (a := a) (xs := xs) (fun i H' => Same H H' ∧ H' D = some (.lst (ys.take i))) (h0 D nD) (fun i H' _ p => p.1.seq hr) (fun i x H' hx p => st D i x H' nD hx p) (fun H' p => hq D H' nD p)⟩
  · exact .inr ⟨_, hv, a, rfl, ⟨_, hr⟩, fun D nD => L2.lc_tup (K := K) (a := a) (xs := xs) (fun i H' => Same H H' ∧ H' D = some (.lst (ys.take i))) (h0 D nD) (fun i H' _ p => sameT p.1 hr) (fun i x H' hx p => st D i x H' nD hx p) (fun H' p => hq D H' nD p)⟩
/-- the letter of a code -/
def lV (c : Nat) : V := .str (tx [c])
end BK

namespace BK
open PySem PySem.Spec PyProof.Rows L2

/-! ## defs that ask for a repr: known is that no repr is under way around them -/
structure FnG (P : Program) (w : World) (K : PySem.W.Frag) (mg : Str → Option Value) (base : Heap) (C : CXT) (k : Nat) (f : Addr) (fd : FuncData) (ps : List Str) (sp : Sp) : Prop where
  ln : ∀ vs H Q E, sp vs H Q E → vs.length = ps.length
  go : ∀ (A : Around) (out : List Env) (s : Shared) (H : Hp) (ar : Args) (us : List Value) (vs : List V) (Q : VK) (E : XK), A.guards = some [] → Room k A → Env0 P w K mg base A out s H →
    BindsTo s fd ar (ps.zip us) → Vals vs us → sp vs H Q E → codeAny (model P w) A (.call (.ref f) ar) (CR C out P w H s Q E) s
section
variable {P : Program} {w : World} {K : PySem.W.Frag} {mg : Str → Option Value} {base : Heap} {C : CXT} {k : Nat} {f : Addr} {fd : FuncData} {ps : List Str} {sp : Sp}
theorem FnG.up {j : Nat} (F : FnG P w K mg base C j f fd ps sp) (h : j ≤ k) : FnG P w K mg base C k f fd ps sp :=
  ⟨F.ln, fun A out s H ar us vs Q E hg hr => F.go A out s H ar us vs Q E hg (hr.mono h)⟩
/-- its body keeps the promise -/
theorem fnG_of {nm ql : Str} {pa : Arguments} {bd : List Stmt} {sc : Scope} {dv kv dc pm cv ct oc : Value} {an od : Option Addr} {sl : Array (Option Value)} {N : List Str}
    (lk : K.lookup f = some ⟨oc, od, .func (PySem.W.fnOf nm ql pa bd sc dv kv dc pm an cv ct), sl⟩) (hc : PySem.W.codeIn K cv ql = true) (S : FnScope N ps sc) (ln : ∀ vs H Q E, sp vs H Q E → vs.length = ps.length)
    (hb : ∀ (A : Around) (out : List Env) (s : Shared) (H : Hp) (vs : List V) (Q : VK) (E : XK), A.guards = some [] → Room k (A.deeper (envOfC ql sc s.heap.objs.size f cv)) → sp vs H Q E →
      ∃ t, PSs (cxOf C P w K mg base N ql sc f cv A out s H E) bd t ∧ t { nx := fun _ H' => Q .non H', rt := Q } (start N vs) H) :
    FnG P w K mg base C (k + 1) f (PySem.W.fnOf nm ql pa bd sc dv kv dc pm an cv ct) ps sp := by
  refine ⟨ln, ?_⟩
  intro A out s H ar us vs Q E hg hr e0 hbd r hsp
  have hlen := ln _ _ _ _ hsp
  have hK : K.In s.heap := e0.mod.kin.keeps (fun b o e => (e0.bs b o e).1)
  have hlim : s.heap.NoLimit := e0.mod.nolimit.keeps (fun b o e => (e0.bs b o e).1)
  have hki : ∀ z ∈ ps.zip us, sc.names.lookup z.1 = some .local ∨ (sc.names.lookup z.1 = some .cell ∧ ((cellsFrom (s.heap.objs.size + 1) sc.names []).lookup z.1).isSome = true) := by
    rintro ⟨n, v⟩ hz
    rcases S.par n (List.of_mem_zip hz).1 with h | h
    · exact Or.inl h
    · exact Or.inr ⟨h, PySem.W.cellsFrom_some _ _ _ (Or.inl h)⟩
  refine codeAny_call_function hr.depth (hK _ _ lk) rfl S.co S.gen rfl (PySem.W.codeRec_of hK hc) (hbd _ _ _ _ ?_)
  refine wpAny_newFunctionEnv_cells S.kind hki (fun en hen sB xi => ?_)
  subst hen
  refine ⟨hlim.keeps xi.toInCall.keep, codeAny_func ?_⟩
  obtain ⟨t, ht, hq⟩ := hb A out s H vs Q E hg (hr.deeper _) hsp
  have J0 : Inv (cxOf C P w K mg base N ql sc f cv A out s H E) [] (start N vs) H sB := inv_start S hr.hd e0 hlen r xi
  refine wpAny_mono (ht.run [] sB (start N vs) H _ J0 hq) (fun fl sE hE => ?_) (fun e sE hE => hE)
  cases fl with
  | ret u =>
    obtain ⟨v, τ, HE, J, rv, q⟩ := hE
    exact ⟨v, HE, J.os, J.bare, J.base, J.hok, rv, q⟩
  | next =>
    obtain ⟨τ, HE, J, q⟩ := hE
    exact ⟨V.non, HE, J.os, J.bare, J.base, J.hok, (rfl : RelV .non Value.none), q⟩
  | brk => exact hE.elim fun _ z => z.elim fun _ z => z.2.elim
  | cont => exact hE.elim fun _ z => z.elim fun _ z => z.2.elim
end
section
variable {P : Program} {w : World} {K : PySem.W.Frag} {mg : Str → Option Value} {base : Heap}
theorem funG {x ql : Str} {st : Stmt} {f : Addr} {fd : FuncData} {N ps : List Str} {k : Nat} {sp : Sp} (F : Fun K x ql st f fd) (S : FnScope N ps (defScope st)) (ln : ∀ vs H Q E, sp vs H Q E → vs.length = ps.length)
    (hb : ∀ (cv : Value) (A : Around) (out : List Env) (s : Shared) (H : Hp) (vs : List V) (Q : VK) (E : XK), A.guards = some [] → Room k (A.deeper (envOfC ql (defScope st) s.heap.objs.size f cv)) → sp vs H Q E →
      ∃ t, PSs (cxOf CX0 P w K mg base N ql (defScope st) f cv A out s H E).nox (defBody st) t ∧ t { nx := fun _ H' => Q .non H', rt := Q } (start N vs) H) : FnG P w K mg base CX0 (k + 1) f fd ps sp := by
  obtain ⟨oc, od, kv, dc, pm, an, cv, ct, sl, rfl, lk, hc⟩ := F.ex
  exact fnG_of lk hc S ln fun A out s H vs Q E hg hr hsp => let ⟨t, h, q⟩ := hb cv A out s H vs Q E hg hr hsp; ⟨t, h.nox, q⟩
end
section
variable {X : Cx} {C : CXT} {k : Nat} {f : Addr} {fd : FuncData} {ps : List Str} {sp : Sp} {dvs : List V} {ds : List Value} {E : XK} {x : Str} {p pos : Pos} {e : Expr} {es : List Expr} {t : TA}
theorem run_G {pins : List (Addr × Obj)} {σ : L2.St} {H : Hp} {s : Shared} {Q : VK} {us : List Value} {vs : List V} (F : FnG X.prog X.w X.K X.mg X.base C k f fd ps sp) (hg : X.A.guards = some []) (hr : Room k X.A) (hb : Binds X.K fd ps ds) (hd : Vals dvs ds) (hx : Passes C X E)
    (I : L2.Inv X pins σ H s) (r : Vals vs us) (h : sp (vs ++ dvs) H Q E) : wpAny (model X.prog X.w) X.A (call (.ref f) us) (EP X pins σ Q) X.xe s := by
  have rr : Vals (vs ++ dvs) (us ++ ds) := r.append hd
  have hl : (us ++ ds).length = ps.length := rr.length.symm.trans (F.ln _ _ _ _ h)
  refine wpAny_call (codeAny_mono (F.go X.A X.stack s H ⟨us, []⟩ (us ++ ds) (vs ++ dvs) Q E hg hr I.env0 (hb s us I.kIn hl) rr h) (fun r sE hE => ?_))
  match r, hE with
  | .error e, hE => exact hx pins σ H s e sE I hE
  | .ok (.ret u), hE => exact I.after hE
theorem pe_callG (F : FnG X.prog X.w X.K X.mg X.base C k f fd ps sp) (hg : X.A.guards = some []) (hr : Room k X.A) (hgl : Gl X x) (hm : X.mg x = some (.ref f)) (hk : PySem.W.keepIn X.K (.ref f) = true) (hb : Binds X.K fd ps ds) (hd : Vals dvs ds) (hx : Passes C X E)
    (ha : PA X (e :: es) t) (hdb : (x == ("__debug__" : Str)) = false := by decide) (he : starEach (e :: es) X.env = (false, eval e X.env) :: starEach es X.env := by rfl) (hpl : (backTo pos (starEach es X.env)).any (·.1) = false := by rfl) :
    PE X (.Call (.Name x p) (e :: es) [] pos) (tCall sp dvs E t) := by
  constructor
  intro pins s σ H Q I h
  refine wpAny_Call_Name_kw (ld_glob I hgl hm ?_ hdb)
  exact PySem.W.callWith_K (h₀ := X.base) I.ok.mod.kin hk (thn (ha.run pos pins s σ H _ I h) (fun us sB ⟨vs, HB, J, r, q⟩ => ⟨J.kIn, run_G F hg hr hb hd hx J r q⟩)) he hpl
end

/-! ## the law's promise at the heap behind the top -/
/-- the modules' dict stands in the ground -/
def Mods (b : Heap) : Prop := ∃ mm, b.Ns sysModules mm
/-- a law that may ask for reprs, from what its def promises -/
theorem law_G {P : Program} {w : World} {K : PySem.W.Frag} {mg mb : Str → Option Value} {C : CXT} {k : Nat} {fa a : Addr} {fd : FuncData} {x : Str} {sp : Sp} {s : Shared} {vs : List Value} {ns : List Int}
    (KX : K.In s.heap) (hmod : Mods s.heap) (hns : s.heap.Ns mainGlobals mg) (hb : s.heap.Ns builtinsNs mb) (hbb : ∀ x : Str, x ≠ "__name__" → mb x = bootBuiltins x) (hlim : s.heap.NoLimit) (hgen : s.gens = #[])
    (ha : s.heap.get? a = some { cls := .type "list", data := .seq vs.toArray }) (hi : IntsAre vs ns) (hl : ns.length ≤ sizeLine) (hr : Room k callerA)
    (F : ∀ b : Heap, K.In b → b.Ns mainGlobals mg → Mods b → FnG P w K mg b C k fa fd [x] sp) (hbind : ∀ (s : Shared) (u : Value), BindsTo s fd ⟨[u], []⟩ [(x, u)])
    (hsp : ∀ H : Hp, Only H → SqL K H a (ns.map V.int) → sp [.ref a] H (fun v _ => v = .bl true) fun _ _ _ => False)
    (hC : ∀ H e s', C [] H s (fun _ _ _ => False) e s' → False) :
    codeAny (model P w) callerA (.call (.ref fa) ⟨[.ref a], []⟩) (fun r s' => r = .ok (.ret (.bool true)) ∧ OldK s.heap s'.heap ∧ s'.os = s.os ∧ AllBare s'.gens) s := by
  have rv := vals_ints hi
  have lv := hi.length
  -- H tracks nothing, or the script alone
  suffices core : ∀ H : Hp, Only H → SqL K H a (ns.map V.int) → HOk P w H s.heap → (∀ b, H b ≠ none → b = a) → (H a ≠ none → K.lookup a = none) →
      codeAny (model P w) callerA (.call (.ref fa) ⟨[.ref a], []⟩) (fun r s' => r = .ok (.ret (.bool true)) ∧ OldK s.heap s'.heap ∧ s'.os = s.os ∧ AllBare s'.gens) s by
    cases hk : K.lookup a with
    | some o =>
      have e := (KX a o hk).symm.trans ha
      cases e
      exact core (fun _ => none) (fun _ => .inl rfl) (.inr ⟨_, vs.toArray, _, hk, rfl, rfl, rfl, by rw [List.size_toArray, lv]; exact hl, by simpa using rv⟩) (fun b u z => nomatch z) (fun b z => absurd rfl z) (fun z => absurd rfl z)
    | none =>
      let o : HO := .frz { cls := .type "list", data := .seq vs.toArray } (.lst (ns.map V.int))
      have at_a : ∀ {b u}, upd (fun _ => none) a o b = some u → b = a ∧ u = o := fun {b u} z => by
        by_cases hba : b = a
        · subst hba
          rw [upd_same] at z
          exact ⟨rfl, (Option.some.inj z).symm⟩
        · rw [upd_ne hba] at z
          exact nomatch z
      have uo : upd (fun _ => none) a o a = some (.frz { cls := .type "list", data := .seq vs.toArray } (.lst (ns.map V.int))) := upd_same
      refine core (upd (fun _ => none) a o) (fun b => ?_) (.inl (.inr ⟨_, uo⟩)) (fun b u z => ?_) (fun b z => ?_) (fun _ => hk)
      · by_cases hba : b = a
        · subst hba
          exact Or.inr ⟨_, _, uo⟩
        · exact .inl (upd_ne hba)
      · obtain ⟨rfl, rfl⟩ := at_a z
        exact ⟨ha, by rw [List.length_map]; exact hl, vs, _, rv, ha⟩
      · cases q : upd (fun _ => none) a o b with
        | none => exact absurd q z
        | some u => exact (at_a q).1
  intro H hO hS hok hA hKa
  have low : ∀ {b : Addr} {o : Obj}, s.heap.get? b = some o → (H b ≠ none → False) → (hidT s.heap H).get? b = some o := fun {b o} e n => by
    refine hidT_get e ?_
    cases q : H b with
    | none => rfl
    | some u => exact (n (by rw [q]; exact nofun)).elim
  have nsK : ∀ {b : Addr} {m : Str → Option Value}, s.heap.Ns b m → (hidT s.heap H).Ns b m := by
    rintro b m ⟨o, es, ep, e, d, r⟩
    refine ⟨o, es, ep, low e (fun n => ?_), d, r⟩
    have eb := hA b n
    subst eb
    have eo := e.symm.trans ha
    cases eo
    cases (show Data.seq vs.toArray _ = Data.dict es ep from d)
  have hKb : K.In (hidT s.heap H) := fun b o e => low (KX b o e) (fun n => by
    have eb := hA b n
    subst eb
    rw [hKa n] at e
    cases e)
  obtain ⟨mc, hm1, hm2⟩ := hlim
  have hM : Mod K mg (hidT s.heap H) := ⟨hKb, nsK hns, ⟨mb, nsK hb, hbb⟩, mc, nsK hm1, hm2⟩
  have e0 : Env0 P w K mg (hidT s.heap H) callerA [] s H := ⟨rfl, hM, fun b o e => of_hidT e, Nat.le_of_eq (hidT_size _ _), trivial, fun b hb => (List.not_mem_nil hb).elim, hok, .of_eq hgen⟩
  refine codeAny_mono ((F _ hKb (nsK hns) (hmod.imp fun mm h => nsK h)).go callerA [] s H ⟨[.ref a], []⟩ [.ref a] [.ref a] _ _ rfl hr e0 (hbind s (.ref a)) (.cons rfl .nil) (hsp H hO hS)) (fun r s' h => ?_)
  match r, h with
  | .error e, h => exact (hC H e s' h).elim
  | .ok (.ret u), h =>
    obtain ⟨v, HE, os, bare, un, hokE, rr, q⟩ := h
    obtain rfl : v = .bl true := q
    obtain rfl : u = Value.bool true := rr
    refine ⟨rfl, OldK.of_keep (fun b o e => ?_), os, bare⟩
    rcases hO b with z | ⟨ob, xs, z⟩
    · exact un.keep b o e z (fun z => (List.not_mem_nil z).elim) (fun z => (List.not_mem_nil z).elim)
    · have e1 := (hok b _ z).1
      have e2 := (hokE b _ (un.frzs b ob _ z)).1
      rw [e] at e1
      cases e1
      exact e2
theorem walk_G {l : PySem.W.OpenLaw} {n k : Nat} {q : Program} {lo : List Str} {XP : (Str → Option Value) → Heap → Prop} {YP : World → Heap → Prop} {d : DefRec} {K : Params → PySem.W.Frag} {C : World → CXT} {sp : World → Sp} {x : Str}
    (hn : l.most = some n) (hz : n ≤ sizeLine) (hi : PyProof.Rows.importsNone q = true) (hdf : d.params.defaults = []) (hr : Room k callerA) (hY : ∀ (w : World) (h : Heap), YP w h → (K w.params).In h)
    (F : ∀ (w : World) (mg : Str → Option Value) (fa : Addr) (h : Heap), (K w.params).In h → h.Ns mainGlobals mg → mg d.name = some (.ref fa) →
      ∃ fd : FuncData, (∀ (s : Shared) (u : Value), BindsTo s fd ⟨[u], []⟩ [(x, u)]) ∧ ∀ b : Heap, (K w.params).In b → b.Ns mainGlobals mg → Mods b → FnG l.prog w (K w.params) mg b (C w) k fa fd [x] (sp w))
    (hsp : ∀ (w : World) (H : Hp) (a : Addr) (ns : List Int), ns.length ≤ n → Only H → SqL (K w.params) H a (ns.map V.int) → sp w [.ref a] H (fun v _ => v = .bl true) fun _ _ _ => False)
    (hC : ∀ (w : World) (H : Hp) (s : Shared) (e : Value) (s' : Shared), C w [] H s (fun _ _ _ => False) e s' → False) :
    PySem.W.WalkO q lo XP YP l.row.toRowW d [] (fun f vs => PySem.call f vs) := by
  refine Att.attach_call hn hdf ?_
  intro w s0 s1 mg mb fa o pm cd doc a vs ns G Y ho hd hcd hmg hob hin hle hgn
  obtain ⟨fd, hb, hF⟩ := F w mg fa _ (hY w _ Y) G.T.g hmg
  exact law_G (hY w _ Y) ((G.T.seer hi).mods.imp fun _ h => h.1) G.T.g G.T.b G.T.builtins G.T.nolimit hgn hob hin (Nat.le_trans hle hz) hr hF hb (fun H hO hS => hsp w H a ns hle hO hS) (fun H e s' => hC w H s1 e s')
end BK

namespace BK
open PySem PySem.Spec PyProof.Rows L2

/-! ## reprs of handed things -/
mutual
def Dt.py : Dt → PyData
  | .non => .none
  | .bl b => .bool b
  | .int i => .int i
  | .str w => .str (tx w)
  | .lst ds => .list (pyAll ds)
  | .tup ds => .tuple (pyAll ds)
  | .dic => .dict []
def pyAll : List Dt → List PyData
  | [] => []
  | d :: ds => d.py :: pyAll ds
end
mutual
/-- what has a short repr; no dict within -/
def Fits : Dt → Prop
  | .non => True
  | .bl _ => True
  | .int i => i.natAbs < 10 ^ 47
  | .str w => ∀ c ∈ w, c < 4294967296
  | .lst ds => FitsAll ds
  | .tup ds => FitsAll ds
  | .dic => False
def FitsAll : List Dt → Prop
  | [] => True
  | d :: ds => Fits d ∧ FitsAll ds
end
mutual
def deep : Dt → Nat
  | .lst ds => deepAll ds + 1
  | .tup ds => deepAll ds + 1
  | .dic => 1
  | _ => 0
def deepAll : List Dt → Nat
  | [] => 0
  | d :: ds => max (deep d) (deepAll ds)
end
mutual
def bulk : Dt → Nat
  | .str w => w.length
  | .lst ds => bulkAll ds
  | .tup ds => bulkAll ds
  | _ => 0
def bulkAll : List Dt → Nat
  | [] => 0
  | d :: ds => bulk d + 1 + bulkAll ds
end
theorem fitsAll_of : ∀ {ds : List Dt}, (∀ d ∈ ds, Fits d) → FitsAll ds
  | [], _ => by unfold FitsAll; trivial
  | d :: ds, h => by unfold FitsAll; exact ⟨h d (List.mem_cons_self ..), fitsAll_of fun x hx => h x (List.mem_cons_of_mem _ hx)⟩
theorem deepAll_le {n : Nat} : ∀ {ds : List Dt}, (∀ d ∈ ds, deep d ≤ n) → deepAll ds ≤ n
  | [], _ => by unfold deepAll; exact Nat.zero_le _
  | d :: ds, h => by
    unfold deepAll
    have h1 := h d (List.mem_cons_self ..)
    have h2 := deepAll_le (n := n) (ds := ds) fun x hx => h x (List.mem_cons_of_mem _ hx)
    omega
theorem bulkAll_le {n : Nat} : ∀ {ds : List Dt}, (∀ d ∈ ds, bulk d ≤ n) → bulkAll ds ≤ ds.length * (n + 1)
  | [], _ => by unfold bulkAll; exact Nat.zero_le _
  | d :: ds, h => by
    unfold bulkAll
    have h1 := h d (List.mem_cons_self ..)
    have h2 := bulkAll_le (n := n) (ds := ds) fun x hx => h x (List.mem_cons_of_mem _ hx)
    rw [List.length_cons, Nat.add_mul, Nat.one_mul]
    omega
mutual
theorem depth_py : ∀ d : Dt, d.py.depth = deep d
  | .non => by simp only [Dt.py, PyData.depth, deep]
  | .bl _ => by simp only [Dt.py, PyData.depth, deep]
  | .int _ => by simp only [Dt.py, PyData.depth, deep]
  | .str _ => by simp only [Dt.py, PyData.depth, deep]
  | .lst ds => by simp only [Dt.py, PyData.depth, deep, depth_all ds]
  | .tup ds => by simp only [Dt.py, PyData.depth, deep, depth_all ds]
  | .dic => by simp only [Dt.py, PyData.depth, PyData.depthKv, deep]
theorem depth_all : ∀ ds : List Dt, PyData.depthAll (pyAll ds) = deepAll ds
  | [] => by simp only [pyAll, PyData.depthAll, deepAll]
  | d :: ds => by simp only [pyAll, PyData.depthAll, deepAll, depth_py d, depth_all ds]
end
mutual
theorem bulk_py : ∀ d : Dt, d.py.bulk = bulk d
  | .non => by simp only [Dt.py, PyData.bulk, bulk]
  | .bl _ => by simp only [Dt.py, PyData.bulk, bulk]
  | .int _ => by simp only [Dt.py, PyData.bulk, bulk]
  | .str w => by simp only [Dt.py, PyData.bulk, bulk, tx, List.size_toArray]
  | .lst ds => by simp only [Dt.py, PyData.bulk, bulk, bulk_all ds]
  | .tup ds => by simp only [Dt.py, PyData.bulk, bulk, bulk_all ds]
  | .dic => by simp only [Dt.py, PyData.bulk, PyData.bulkKv, bulk]
theorem bulk_all : ∀ ds : List Dt, PyData.bulkAll (pyAll ds) = bulkAll ds
  | [] => by simp only [pyAll, PyData.bulkAll, bulkAll]
  | d :: ds => by simp only [pyAll, PyData.bulkAll, bulkAll, bulk_py d, bulk_all ds]
end
theorem int48 {i : Int} (h : i.natAbs < 10 ^ 47) : (PyData.shown (.int i)).length ≤ 48 := by
  show (Str.ofString (toString i)).length ≤ 48
  rw [PySem.ofString_length]
  exact int_text_length_le10 (k := 47) (by decide) h
theorem int_log {i : Int} (h : i.natAbs < 10 ^ 47) : i.natAbs.log2 < 1920 := by
  have h2 : i.natAbs < 2 ^ 160 := Nat.lt_of_lt_of_le h (by decide)
  by_cases h0 : i.natAbs = 0
  · rw [h0]
    decide
  · have := (Nat.log2_lt h0).mpr h2
    omega
mutual
theorem fits_short : ∀ d : Dt, Fits d → d.py.leavesShort 48 = true
  | .non, _ => by simp only [Dt.py, PyData.leavesShort]
  | .bl _, _ => by simp only [Dt.py, PyData.leavesShort]
  | .int i, h => by
    unfold Fits at h
    simp only [Dt.py, PyData.leavesShort, decide_eq_true_eq]
    exact int48 h
  | .str w, h => by
    unfold Fits at h
    simp only [Dt.py, PyData.leavesShort, tx_cps, List.all_eq_true, decide_eq_true_eq]
    exact fun c hc => h c hc
  | .lst ds, h => by
    unfold Fits at h
    simp only [Dt.py, PyData.leavesShort]
    exact fitsAll_short ds h
  | .tup ds, h => by
    unfold Fits at h
    simp only [Dt.py, PyData.leavesShort]
    exact fitsAll_short ds h
  | .dic, h => by unfold Fits at h; exact h.elim
theorem fitsAll_short : ∀ ds : List Dt, FitsAll ds → PyData.leavesShortAll 48 (pyAll ds) = true
  | [], _ => by simp only [pyAll, PyData.leavesShortAll]
  | d :: ds, h => by
    unfold FitsAll at h
    simp only [pyAll, PyData.leavesShortAll, Bool.and_eq_true]
    exact ⟨fits_short d h.1, fitsAll_short ds h.2⟩
end
mutual
theorem fits_show : ∀ d : Dt, Fits d → d.py.showable = true ∧ d.py.hasDict = false
  | .non, _ => by simp only [Dt.py, PyData.showable, PyData.hasDict, and_self]
  | .bl _, _ => by simp only [Dt.py, PyData.showable, PyData.hasDict, and_self]
  | .int i, h => by
    unfold Fits at h
    simp only [Dt.py, PyData.showable, PyData.hasDict, decide_eq_true_eq, and_true]
    exact int_log h
  | .str w, h => by simp only [Dt.py, PyData.showable, PyData.hasDict, and_self]
  | .lst ds, h => by
    unfold Fits at h
    simp only [Dt.py, PyData.showable, PyData.hasDict]
    exact fitsAll_show ds h
  | .tup ds, h => by
    unfold Fits at h
    simp only [Dt.py, PyData.showable, PyData.hasDict]
    exact fitsAll_show ds h
  | .dic, h => by unfold Fits at h; exact h.elim
theorem fitsAll_show : ∀ ds : List Dt, FitsAll ds → PyData.showableAll (pyAll ds) = true ∧ PyData.hasDictAll (pyAll ds) = false
  | [], _ => by simp only [pyAll, PyData.showableAll, PyData.hasDictAll, and_self]
  | d :: ds, h => by
    unfold FitsAll at h
    have h1 := fits_show d h.1
    have h2 := fitsAll_show ds h.2
    simp only [pyAll, PyData.showableAll, PyData.hasDictAll, h1.1, h1.2, h2.1, h2.2, Bool.and_self, Bool.or_self, and_self]
end
section
variable {X : Cx} {pins : List (Addr × Obj)} {σ : L2.St} {H : Hp} {s : Shared}
mutual
theorem reads_at (I : L2.Inv X pins σ H s) : ∀ (d : Dt) (v : V) (u : Value), At X.K H v d → RelV v u → Fits d → ∃ as, Reads s.heap u d.py as
  | .non, v, u, h, r, _ => by
    unfold At at h
    subst h
    cases (show u = Value.none from r)
    simp only [Dt.py]
    exact ⟨_, .none⟩
  | .bl b, v, u, h, r, _ => by
    unfold At at h
    subst h
    cases (show u = Value.bool b from r)
    simp only [Dt.py]
    exact ⟨_, .bool b⟩
  | .int i, v, u, h, r, _ => by
    unfold At at h
    subst h
    obtain ⟨t, rfl⟩ := r
    simp only [Dt.py]
    exact ⟨_, .int i t⟩
  | .str w, v, u, h, r, _ => by
    unfold At at h
    obtain ⟨rfl, _⟩ := h
    obtain ⟨t, rfl⟩ := r
    simp only [Dt.py]
    exact ⟨_, .str _ t⟩
  | .lst ds, v, u, h, r, f => by
    unfold At at h
    unfold Fits at f
    obtain ⟨a, xs, rfl, h1, h2⟩ := h
    cases (show u = Value.ref a from r)
    obtain ⟨its, rv, ⟨o, n, e1, e2, _, e3⟩, _⟩ := I.list h1
    obtain ⟨as, k⟩ := reads_ats I ds xs its h2 rv f
    simp only [Dt.py]
    exact ⟨_, .list e1 e2 e3 (by rw [List.toList_toArray]; exact k)⟩
  | .tup ds, v, u, h, r, f => by
    unfold At at h
    unfold Fits at f
    obtain ⟨a, xs, rfl, h1, h2⟩ := h
    cases (show u = Value.ref a from r)
    obtain ⟨its, rv, ⟨o, e1, e2, n, e3⟩, _⟩ := I.tuple h1
    obtain ⟨as, k⟩ := reads_ats I ds xs its h2 rv f
    simp only [Dt.py]
    exact ⟨_, .tuple e1 e2 e3 (by rw [List.toList_toArray]; exact k)⟩
  | .dic, v, u, h, r, f => by unfold Fits at f; exact f.elim
theorem reads_ats (I : L2.Inv X pins σ H s) : ∀ (ds : List Dt) (vs : List V) (us : List Value), Ats X.K H vs ds → Vals vs us → FitsAll ds → ∃ as, ReadsAll s.heap us (pyAll ds) as
  | [], vs, us, h, r, _ => by
    unfold Ats at h
    subst h
    cases r
    simp only [pyAll]
    exact ⟨_, .nil⟩
  | d :: ds, vs, us, h, r, f => by
    unfold Ats at h
    unfold FitsAll at f
    obtain ⟨v, ws, rfl, h1, h2⟩ := h
    cases r with
    | cons r1 r2 =>
      obtain ⟨a1, k1⟩ := reads_at I d v _ h1 r1 f.1
      obtain ⟨a2, k2⟩ := reads_ats I ds ws _ h2 r2 f.2
      simp only [pyAll]
      exact ⟨_, .cons k1 k2⟩
end
end
/-- a thing's repr -/
def shw (d : Dt) : Str := d.py.shown
def Neat (d : Dt) : Prop := Fits d ∧ deep d ≤ 60 ∧ bulk d ≤ 300000
theorem neat_size {d : Dt} (h : Neat d) : (shw d).length ≤ sizeLine := by
  have h1 := PyData.shown_le_bulk 48 (by decide) d.py (fits_short d h.1)
  rw [bulk_py] at h1
  have h2 : (48 + 2) * bulk d ≤ 50 * 300000 := Nat.mul_le_mul (Nat.le_refl _) h.2.2
  have h3 : sizeLine = 16777216 := by decide
  unfold shw
  omega
def rRepr (K : PySem.W.Frag) : List V → Hp → VK → Prop := fun xs H Q => ∃ (p : Addr) (d : Dt), xs = [.ref p] ∧ At K H (.ref p) d ∧ Neat d ∧ Q (.str (shw d)) H
theorem call_reprG {X : Cx} (hg : X.A.guards = some []) (hu : X.A.units + 64 < cLine) : CallR X (.builtin "repr") (rRepr X.K) := by
  intro pins s σ H xs us Q I r h
  obtain ⟨p, d, rfl, hat, hn, q⟩ := h
  obtain ⟨u, rfl, rp⟩ := vals1 r
  cases (show u = Value.ref p from rp)
  obtain ⟨as, rd⟩ := reads_at I d _ _ hat rfl hn.1
  have hs := fits_show d hn.1
  refine repr_of_reads' rd hs.1 (fun z => absurd z (by rw [hs.2]; exact Bool.false_ne_true)) hg (by rw [depth_py]; have := hn.2.1; omega) (fun _ _ e => e) (fun h' t tk hk => ?_) (neat_size hn)
  exact ⟨.str (shw d), H, I.kept (t' := tk) (fun b o e => hk b o e), ⟨t, rfl⟩, q⟩
end BK

namespace BK
open PySem PySem.Spec PyProof.Rows L2

/-! ## things, lists and tuples not told apart -/
mutual
def norm : Dt → Dt
  | .lst ds => .lst (normAll ds)
  | .tup ds => .lst (normAll ds)
  | .non => .non
  | .bl b => .bl b
  | .int i => .int i
  | .str w => .str w
  | .dic => .dic
def normAll : List Dt → List Dt
  | [] => []
  | d :: ds => norm d :: normAll ds
end
theorem normAll_map : ∀ ds : List Dt, normAll ds = ds.map norm
  | [] => by simp only [normAll, List.map_nil]
  | d :: ds => by simp only [normAll, List.map_cons, normAll_map ds]
mutual
theorem norm_norm : ∀ d : Dt, norm (norm d) = norm d
  | .lst ds => by simp only [norm, normAll_normAll ds]
  | .tup ds => by simp only [norm, normAll_normAll ds]
  | .non => by simp only [norm]
  | .bl b => by simp only [norm]
  | .int i => by simp only [norm]
  | .str w => by simp only [norm]
  | .dic => by simp only [norm]
theorem normAll_normAll : ∀ ds : List Dt, normAll (normAll ds) = normAll ds
  | [] => by simp only [normAll]
  | d :: ds => by simp only [normAll, norm_norm d, normAll_normAll ds]
end
theorem row_norm (d : Dt) : isRow (norm d) = isRow d := by cases d <;> simp only [norm, isRow]
theorem items_norm (d : Dt) : (norm d).items = d.items.map norm := by cases d <;> simp only [norm, Dt.items, normAll_map, List.map_nil]
theorem whole_norm (d : Dt) (lo : Int) : isWhole (norm d) lo = isWhole d lo := by cases d <;> simp only [norm, isWhole]
theorem within_norm (d : Dt) (lo hi : Int) : isWithin (norm d) lo hi = isWithin d lo hi := by cases d <;> simp only [norm, isWithin]
theorem word_norm (d : Dt) : isWord (norm d) = isWord d := by cases d <;> simp only [norm, isWord]
theorem plain_norm (d : Dt) : isPlain (norm d) = isPlain d := by cases d <;> simp only [norm, isPlain]
theorem piece_norm (d : Dt) : isPiece (norm d) = isPiece d := by
  unfold isPiece
  rw [row_norm, items_norm]
  congr 1
  match d.items with
  | [] => rfl
  | [a] => rfl
  | [a, b] =>
    show (isWord (norm a) && isWhole (norm b) 1) = (isWord a && isWhole b 1)
    rw [word_norm, whole_norm]
  | a :: b :: c :: r => rfl
theorem pcOf_norm (d : Dt) : pcOf (norm d) = pcOf d := by
  unfold pcOf
  rw [items_norm]
  match d.items with
  | [] => rfl
  | [a] => cases a <;> simp only [norm, List.map_cons, List.map_nil]
  | [a, b] => cases a <;> cases b <;> simp only [norm, List.map_cons, List.map_nil]
  | a :: b :: c :: r => cases a <;> cases b <;> simp only [norm, List.map_cons]
theorem pieceSize_norm (d : Dt) : pieceSize (norm d) = pieceSize d := by
  unfold pieceSize
  rw [items_norm]
  match d.items with
  | [] => rfl
  | [a] => cases a <;> simp only [norm, List.map_cons, List.map_nil]
  | [a, b] => cases a <;> cases b <;> simp only [norm, List.map_cons, List.map_nil]
  | a :: b :: c :: r => cases a <;> cases b <;> simp only [norm, List.map_cons]
theorem isText_norm (d : Dt) : isText (norm d) = isText d := by
  unfold isText
  rw [row_norm, items_norm, List.length_map, List.all_map, List.map_map]
  have e1 : (isPiece ∘ norm) = isPiece := funext piece_norm
  have e2 : (pieceSize ∘ norm) = pieceSize := funext pieceSize_norm
  rw [e1, e2]
theorem pcs_norm (d : Dt) : pcs (norm d) = pcs d := by
  unfold pcs
  rw [items_norm, List.map_map, show (pcOf ∘ norm) = pcOf from funext pcOf_norm]
theorem isText_like {d e : Dt} (h : norm e = norm d) : isText e = isText d := by rw [← isText_norm, h, isText_norm]
theorem pcs_like {d e : Dt} (h : norm e = norm d) : pcs e = pcs d := by rw [← pcs_norm, h, pcs_norm]
mutual
theorem fits_norm : ∀ d : Dt, Fits (norm d) = Fits d
  | .lst ds => by simp only [norm, Fits, fitsAll_norm ds]
  | .tup ds => by simp only [norm, Fits, fitsAll_norm ds]
  | .non => by simp only [norm]
  | .bl b => by simp only [norm]
  | .int i => by simp only [norm]
  | .str w => by simp only [norm]
  | .dic => by simp only [norm]
theorem fitsAll_norm : ∀ ds : List Dt, FitsAll (normAll ds) = FitsAll ds
  | [] => by simp only [normAll]
  | d :: ds => by simp only [normAll, FitsAll, fits_norm d, fitsAll_norm ds]
end
mutual
theorem deep_norm : ∀ d : Dt, deep (norm d) = deep d
  | .lst ds => by simp only [norm, deep, deepAll_norm ds]
  | .tup ds => by simp only [norm, deep, deepAll_norm ds]
  | .non => by simp only [norm]
  | .bl b => by simp only [norm]
  | .int i => by simp only [norm]
  | .str w => by simp only [norm]
  | .dic => by simp only [norm]
theorem deepAll_norm : ∀ ds : List Dt, deepAll (normAll ds) = deepAll ds
  | [] => by simp only [normAll]
  | d :: ds => by simp only [normAll, deepAll, deep_norm d, deepAll_norm ds]
end
mutual
theorem bulk_norm : ∀ d : Dt, bulk (norm d) = bulk d
  | .lst ds => by simp only [norm, bulk, bulkAll_norm ds]
  | .tup ds => by simp only [norm, bulk, bulkAll_norm ds]
  | .non => by simp only [norm]
  | .bl b => by simp only [norm]
  | .int i => by simp only [norm]
  | .str w => by simp only [norm]
  | .dic => by simp only [norm]
theorem bulkAll_norm : ∀ ds : List Dt, bulkAll (normAll ds) = bulkAll ds
  | [] => by simp only [normAll]
  | d :: ds => by simp only [normAll, bulkAll, bulk_norm d, bulkAll_norm ds]
end
theorem neat_like {d e : Dt} (h : norm e = norm d) (n : Neat d) : Neat e := by
  refine ⟨?_, ?_, ?_⟩
  · rw [← fits_norm, h, fits_norm]
    exact n.1
  · rw [← deep_norm, h, deep_norm]
    exact n.2.1
  · rw [← bulk_norm, h, bulk_norm]
    exact n.2.2

/-! ## new lists all through: their rooms -/
mutual
def AtF (H : Hp) : V → Dt → List Addr → Prop
  | v, .lst ds, fp => ∃ a xs fs, v = .ref a ∧ H a = some (.lst xs) ∧ AtFs H xs ds fs ∧ fp = a :: fs
  | v, .non, fp => v = .non ∧ fp = []
  | v, .bl b, fp => v = .bl b ∧ fp = []
  | v, .int i, fp => v = .int i ∧ fp = []
  | v, .str w, fp => v = .str (tx w) ∧ w.length ≤ 1000000 ∧ fp = []
  | _, .tup _, _ => False
  | _, .dic, _ => False
def AtFs (H : Hp) : List V → List Dt → List Addr → Prop
  | vs, [], fp => vs = [] ∧ fp = []
  | vs, d :: ds, fp => ∃ v us f fs, vs = v :: us ∧ AtF H v d f ∧ AtFs H us ds fs ∧ fp = f ++ fs
end
mutual
theorem AtF.same {H H' : Hp} : ∀ (d : Dt) (v : V) (fp : List Addr), AtF H v d fp → (∀ b o, b ∈ fp → H b = some o → H' b = some o) → AtF H' v d fp
  | .lst ds, v, fp, h, e => by
    unfold AtF at h ⊢
    obtain ⟨a, xs, fs, rfl, h1, h2, rfl⟩ := h
    exact ⟨a, xs, fs, rfl, e _ _ (List.mem_cons_self ..) h1, AtFs.same ds xs fs h2 (fun b o hb => e b o (List.mem_cons_of_mem _ hb)), rfl⟩
  | .non, v, fp, h, e => by unfold AtF at h ⊢; exact h
  | .bl b, v, fp, h, e => by unfold AtF at h ⊢; exact h
  | .int i, v, fp, h, e => by unfold AtF at h ⊢; exact h
  | .str w, v, fp, h, e => by unfold AtF at h ⊢; exact h
  | .tup _, v, fp, h, e => by unfold AtF at h; exact h.elim
  | .dic, v, fp, h, e => by unfold AtF at h; exact h.elim
theorem AtFs.same {H H' : Hp} : ∀ (ds : List Dt) (vs : List V) (fp : List Addr), AtFs H vs ds fp → (∀ b o, b ∈ fp → H b = some o → H' b = some o) → AtFs H' vs ds fp
  | [], vs, fp, h, e => by unfold AtFs at h ⊢; exact h
  | d :: ds, vs, fp, h, e => by
    unfold AtFs at h ⊢
    obtain ⟨v, us, f, fs, rfl, h1, h2, rfl⟩ := h
    exact ⟨v, us, f, fs, rfl, AtF.same d v f h1 (fun b o hb => e b o (List.mem_append_left _ hb)), AtFs.same ds us fs h2 (fun b o hb => e b o (List.mem_append_right _ hb)), rfl⟩
end
mutual
theorem AtF.at {K : PySem.W.Frag} {H : Hp} : ∀ (d : Dt) (v : V) (fp : List Addr), AtF H v d fp → At K H v d
  | .lst ds, v, fp, h => by
    unfold AtF at h
    obtain ⟨a, xs, fs, rfl, h1, h2, rfl⟩ := h
    unfold At
    exact ⟨a, xs, rfl, SqL.of h1, AtFs.at ds xs fs h2⟩
  | .non, v, fp, h => by unfold AtF at h; unfold At; exact h.1
  | .bl b, v, fp, h => by unfold AtF at h; unfold At; exact h.1
  | .int i, v, fp, h => by unfold AtF at h; unfold At; exact h.1
  | .str w, v, fp, h => by unfold AtF at h; unfold At; exact ⟨h.1, h.2.1⟩
  | .tup _, v, fp, h => by unfold AtF at h; exact h.elim
  | .dic, v, fp, h => by unfold AtF at h; exact h.elim
theorem AtFs.at {K : PySem.W.Frag} {H : Hp} : ∀ (ds : List Dt) (vs : List V) (fp : List Addr), AtFs H vs ds fp → Ats K H vs ds
  | [], vs, fp, h => by unfold AtFs at h; unfold Ats; exact h.1
  | d :: ds, vs, fp, h => by
    unfold AtFs at h
    obtain ⟨v, us, f, fs, rfl, h1, h2, rfl⟩ := h
    unfold Ats
    exact ⟨v, us, rfl, AtF.at d v f h1, AtFs.at ds us fs h2⟩
end
theorem AtFs.snoc {H : Hp} {v : V} {d : Dt} {f : List Addr} (hv : AtF H v d f) : ∀ {ds : List Dt} {vs : List V} {fs : List Addr}, AtFs H vs ds fs → AtFs H (vs ++ [v]) (ds ++ [d]) (fs ++ f)
  | [], vs, fs, h => by
    unfold AtFs at h
    obtain ⟨rfl, rfl⟩ := h
    show AtFs H [v] [d] f
    unfold AtFs
    exact ⟨v, [], f, [], rfl, hv, by unfold AtFs; exact ⟨rfl, rfl⟩, (List.append_nil f).symm⟩
  | c :: ds, vs, fs, h => by
    unfold AtFs at h
    obtain ⟨u, us, g, gs, rfl, h1, h2, rfl⟩ := h
    show AtFs H (u :: (us ++ [v])) (c :: (ds ++ [d])) _
    unfold AtFs
    exact ⟨u, us ++ [v], g, gs ++ f, rfl, h1, AtFs.snoc hv h2, List.append_assoc ..⟩
theorem Ats.snoc {K : PySem.W.Frag} {H : Hp} {v : V} {d : Dt} (hv : At K H v d) : ∀ {ds : List Dt} {vs : List V}, Ats K H vs ds → Ats K H (vs ++ [v]) (ds ++ [d])
  | [], vs, h => by
    unfold Ats at h
    subst h
    show Ats K H [v] [d]
    unfold Ats
    exact ⟨v, [], rfl, hv, by unfold Ats; rfl⟩
  | c :: ds, vs, h => by
    unfold Ats at h
    obtain ⟨u, us, rfl, h1, h2⟩ := h
    show Ats K H (u :: (us ++ [v])) (c :: (ds ++ [d]))
    unfold Ats
    exact ⟨u, us ++ [v], rfl, h1, Ats.snoc hv h2⟩

/-! ## isinstance of handed things -/
theorem At.tyx {K : PySem.W.Frag} {H : Hp} {v : V} {d : Dt} (h : At K H v d) : TyX K H v (.type d.ty) := by
  cases d with
  | non => unfold At at h; subst h; exact .base .non
  | bl b => unfold At at h; subst h; exact .base (.bl b)
  | int i => unfold At at h; subst h; exact .base (.int i)
  | str w => unfold At at h; obtain ⟨rfl, _⟩ := h; exact .base (.str _)
  | lst ds =>
    unfold At at h
    obtain ⟨a, xs, rfl, h1, _⟩ := h
    rcases h1 with (h1 | ⟨o, h1⟩) | ⟨o, its, n, h1, h2, _⟩
    · exact .base (.lst h1)
    · exact .base (.frz h1)
    · exact .kList h1 h2
  | tup ds =>
    unfold At at h
    obtain ⟨a, xs, rfl, h1, _⟩ := h
    rcases h1 with (h1 | ⟨o, h1⟩) | ⟨o, its, n, h1, h2, _⟩
    · exact .base (.tup h1)
    · exact .fTuple h1
    · exact .kTuple h1 h2
  | dic => unfold At at h; obtain ⟨a, rfl, h1⟩ := h; exact .base (.dK h1)
theorem kit_known : ∀ y ∈ knownTy, ∀ n ∈ ["list", "tuple", "bool", "str", "int"], kitB y n = some (decide (y = n) || (decide (y = "bool") && decide (n = "int"))) := by decide +kernel
theorem isi_ty {K : PySem.W.Frag} {H : Hp} {v : V} {d : Dt} {n : String} {Q : VK} (h : At K H v d) (hn : n ∈ ["list", "tuple", "bool", "str", "int"]) (q : Q (.bl (decide (d.ty = n) || (decide (d.ty = "bool") && decide (n = "int")))) H) : rIsi K [v, .ty n] H Q :=
  ⟨v, .ty n, .type d.ty, .type n, _, rfl, .ty n, h.tyx, kit_ty (kit_known _ (ty_known d) n hn), q⟩
theorem isRow_ty (d : Dt) : isRow d = (decide (d.ty = "list") || decide (d.ty = "tuple")) := by cases d <;> simp [isRow, Dt.ty]
theorem isi_row {K : PySem.W.Frag} {H : Hp} {v : V} {d : Dt} {t : Addr} {Q : VK} (h : At K H v d) (ht : H t = some (.tup [.ty "list", .ty "tuple"])) (q : Q (.bl (isRow d)) H) : rIsiT K [v, .ref t] H Q := by
  refine ⟨v, t, _, .type d.ty, _, _, rfl, ht, .cons (.ty "list") (.cons (.ty "tuple") .nil), h.tyx, ?_, q⟩
  rw [isRow_ty]
  refine kitAny_cons (kit_ty (kit_known _ (ty_known d) "list" (by decide))) (fun e => ?_) (fun e => ?_)
  · have e1 : decide (d.ty = "list") = false := by
      cases h : decide (d.ty = "list") with
      | false => rfl
      | true => rw [h] at e; cases e
    rw [e1, Bool.false_or]
    refine kitAny_cons (kit_ty (kit_known _ (ty_known d) "tuple" (by decide))) (fun e2 => ?_) (fun e2 => ?_)
    · have e3 : decide (d.ty = "tuple") = false := by
        cases h : decide (d.ty = "tuple") with
        | false => rfl
        | true => rw [h] at e2; cases e2
      rw [e3]
      rfl
    · rw [show (decide ("tuple" = "int")) = false from by decide, Bool.and_false, Bool.or_false] at e2
      exact e2
  · rw [show (decide ("list" = "int")) = false from by decide, Bool.and_false, Bool.or_false] at e
    rw [e]
    rfl

/-! ## rooms apart -/
mutual
theorem AtF.trk {H : Hp} : ∀ (d : Dt) (v : V) (fp : List Addr), AtF H v d fp → ∀ b ∈ fp, ∃ o, H b = some o
  | .lst ds, v, fp, h => by
    unfold AtF at h
    obtain ⟨a, xs, fs, rfl, h1, h2, rfl⟩ := h
    intro b hb
    rcases List.mem_cons.mp hb with rfl | hb
    · exact ⟨_, h1⟩
    · exact AtFs.trk ds xs fs h2 b hb
  | .non, v, fp, h => by unfold AtF at h; obtain ⟨_, rfl⟩ := h; exact fun b hb => (List.not_mem_nil hb).elim
  | .bl b, v, fp, h => by unfold AtF at h; obtain ⟨_, rfl⟩ := h; exact fun b hb => (List.not_mem_nil hb).elim
  | .int i, v, fp, h => by unfold AtF at h; obtain ⟨_, rfl⟩ := h; exact fun b hb => (List.not_mem_nil hb).elim
  | .str w, v, fp, h => by unfold AtF at h; obtain ⟨_, _, rfl⟩ := h; exact fun b hb => (List.not_mem_nil hb).elim
  | .tup _, v, fp, h => by unfold AtF at h; exact h.elim
  | .dic, v, fp, h => by unfold AtF at h; exact h.elim
theorem AtFs.trk {H : Hp} : ∀ (ds : List Dt) (vs : List V) (fp : List Addr), AtFs H vs ds fp → ∀ b ∈ fp, ∃ o, H b = some o
  | [], vs, fp, h => by unfold AtFs at h; obtain ⟨_, rfl⟩ := h; exact fun b hb => (List.not_mem_nil hb).elim
  | d :: ds, vs, fp, h => by
    unfold AtFs at h
    obtain ⟨v, us, f, fs, rfl, h1, h2, rfl⟩ := h
    intro b hb
    rcases List.mem_append.mp hb with hb | hb
    · exact AtF.trk d v f h1 b hb
    · exact AtFs.trk ds us fs h2 b hb
end
/-- the heap without one thing -/
def hid (p : Addr) (H : Hp) : Hp := fun b => if b = p then none else H b
theorem hid_ne {p b : Addr} {H : Hp} (h : b ≠ p) : hid p H b = H b := if_neg h
theorem hid_at {p b : Addr} {H : Hp} {o : HO} (h : hid p H b = some o) : b ≠ p ∧ H b = some o := by
  by_cases e : b = p
  · rw [show hid p H b = none from if_pos e] at h
    cases h
  · exact ⟨e, (if_neg e).symm.trans h⟩
theorem hid_same (p : Addr) (H : Hp) : Same (hid p H) H := fun _ _ h => (hid_at h).2
theorem hid_mono {p : Addr} {H H' : Hp} (e : Same H H') : Same (hid p H) (hid p H') := fun b o h => by
  obtain ⟨h1, h2⟩ := hid_at h
  rw [hid_ne h1]
  exact e b o h2
theorem hid_upd {p t : Addr} {H : Hp} {o : HO} (h : t ≠ p) : hid p (upd H t o) = upd (hid p H) t o := by
  funext b
  by_cases e : b = p
  · subst e
    rw [upd_ne (fun z => h z.symm)]
    show (if b = b then none else _) = (if b = b then none else _)
    rw [if_pos rfl, if_pos rfl]
  · rw [hid_ne e]
    by_cases e2 : b = t
    · subst e2
      rw [upd_same, upd_same]
    · rw [upd_ne e2, upd_ne e2, hid_ne e]
theorem take_norm {ds : List Dt} {i : Nat} {d : Dt} (h : ds[i]? = some d) : (ds.map norm).take (i + 1) = (ds.map norm).take i ++ [norm d] := by
  rw [List.take_add_one, List.getElem?_map, h]
  rfl
theorem mem_deep {d e : Dt} (h : e ∈ d.items) : deep e + 1 ≤ deep d := by
  have key : ∀ ds : List Dt, e ∈ ds → deep e ≤ deepAll ds := by
    intro ds
    induction ds with
    | nil => intro h; cases h
    | cons c ds ih =>
      intro h
      simp only [deepAll]
      rcases List.mem_cons.mp h with rfl | h
      · omega
      · have := ih h
        omega
  cases d with
  | lst ds => have := key ds h; simp only [deep]; omega
  | tup ds => have := key ds h; simp only [deep]; omega
  | _ => cases h
theorem mem_bulk {d e : Dt} (h : e ∈ d.items) : bulk e + 1 ≤ bulk d := by
  have key : ∀ ds : List Dt, e ∈ ds → bulk e + 1 ≤ bulkAll ds := by
    intro ds
    induction ds with
    | nil => intro h; cases h
    | cons c ds ih =>
      intro h
      simp only [bulkAll]
      rcases List.mem_cons.mp h with rfl | h
      · omega
      · have := ih h
        omega
  cases d with
  | lst ds => have := key ds h; simp only [bulk]; omega
  | tup ds => have := key ds h; simp only [bulk]; omega
  | _ => cases h
theorem len_bulk (d : Dt) : d.items.length ≤ bulk d := by
  have key : ∀ ds : List Dt, ds.length ≤ bulkAll ds := by
    intro ds
    induction ds with
    | nil => exact Nat.zero_le _
    | cons c ds ih => simp only [bulkAll, List.length_cons]; omega
  cases d with
  | lst ds => exact key ds
  | tup ds => exact key ds
  | _ => exact Nat.zero_le _
theorem fitsAll_mem : ∀ {ds : List Dt}, FitsAll ds → ∀ {e}, e ∈ ds → Fits e
  | [], _, e, h => by cases h
  | d :: ds, f, e, h => by
    unfold FitsAll at f
    rcases List.mem_cons.mp h with rfl | h
    · exact f.1
    · exact fitsAll_mem f.2 h
theorem mem_fits {d e : Dt} (f : Fits d) (h : e ∈ d.items) : Fits e := by
  cases d with
  | lst ds => unfold Fits at f; exact fitsAll_mem f h
  | tup ds => unfold Fits at f; exact fitsAll_mem f h
  | _ => cases h
theorem leaf_AtF {K : PySem.W.Frag} {H : Hp} {v : V} {d : Dt} (h : At K H v d) (f : Fits d) (hr : isRow d = false) : AtF H v (norm d) [] := by
  cases d with
  | lst ds => cases hr
  | tup ds => cases hr
  | non => unfold At at h; simp only [norm]; unfold AtF; exact ⟨h, rfl⟩
  | bl b => unfold At at h; simp only [norm]; unfold AtF; exact ⟨h, rfl⟩
  | int i => unfold At at h; simp only [norm]; unfold AtF; exact ⟨h, rfl⟩
  | str w => unfold At at h; simp only [norm]; unfold AtF; exact ⟨h.1, h.2, rfl⟩
  | dic => unfold Fits at f; exact f.elim
/-- a comprehension over a row, whatever its items come to; the row stands in G, which stays -/
theorem lc_rowP {K : PySem.W.Frag} {a : Addr} {xs : List V} {tt : TT} {te : TE} {vs : List Nat} {σ : L2.St} {G H : Hp} {Q : VK} {j k : Nat} (hv : σ[j]? = some (some (.ref a))) (hr : Row K G a xs) (hG : Same G H)
    (hw : ∀ x, wipe ((wipe σ vs).set k (some x)) vs = wipe σ vs) (ht : ∀ σ H (R : Bool → Hp → Prop), R true H → tt σ H R)
    (Pv : Addr → Nat → List V → Hp → Prop) (h0 : ∀ D, H D = none → Pv D 0 [] (upd H D (.lst []))) (hk : ∀ D i ys H', Pv D i ys H' → Same G H')
    (hs : ∀ D (i : Nat) (x : V) (ys : List V) (H' : Hp), H D = none → xs[i]? = some x → Pv D i ys H' → te ((wipe σ vs).set k (some x)) H' fun y H4 => ∃ acc, H4 D = some (.lst acc) ∧ acc.length < sizeLine ∧ ∃ ys, Pv D (i + 1) ys (upd H4 D (.lst (acc ++ [y]))))
    (hd : ∀ D ys H', H D = none → Pv D xs.length ys H' → Q (.ref D) H') : tLc (iSeq K (tVar j)) (gName k) tt te vs σ H Q := by
  have st : ∀ D i x H', H D = none → xs[i]? = some x → (∃ ys, Pv D i ys H') → gName k x (wipe σ vs) H' fun σ2 H2 => wipe σ2 vs = wipe σ vs ∧ tt σ2 H2 fun b H3 =>
      if b = true then te σ2 H3 fun y H4 => ∃ acc, H4 D = some (.lst acc) ∧ acc.length < sizeLine ∧ (∃ ys, Pv D (i + 1) ys (upd H4 D (.lst (acc ++ [y])))) else (∃ ys, Pv D (i + 1) ys H3) := by
    intro D i x H' nD hx ⟨ys, hP⟩
    refine ⟨hw x, ht _ _ _ ?_⟩
    rw [if_pos rfl]
    exact hs D i x ys H' nD hx hP
  rcases hr with hr | hr
  · exact .inl ⟨_, hv, a, rfl, ⟨_, hG.seq hr⟩, fun D nD => L2.lc_list (K := K) (a := a) (xs := xs) (fun i H' => ∃ ys, Pv D i ys H') ⟨[], h0 D nD⟩ (fun i H' _ ⟨ys, p⟩ => (hk D i ys H' p).seq hr) (fun i x H' hx p => st D i x H' nD hx p) (fun H' ⟨ys, p⟩ => hd D ys H' nD p)⟩
  · exact .inr ⟨_, hv, a, rfl, ⟨_, sameT hG hr⟩, fun D nD => L2.lc_tup (K := K) (a := a) (xs := xs) (fun i H' => ∃ ys, Pv D i ys H') ⟨[], h0 D nD⟩ (fun i H' _ ⟨ys, p⟩ => sameT (hk D i ys H' p) hr) (fun i x H' hx p => st D i x H' nD hx p) (fun H' ⟨ys, p⟩ => hd D ys H' nD p)⟩
/-- the same with any target -/
theorem lc_rowX {K : PySem.W.Frag} {a : Addr} {xs : List V} {tg : TG} {tt : TT} {te : TE} {vs : List Nat} {σ : L2.St} {G H : Hp} {Q : VK} {j : Nat} (hv : σ[j]? = some (some (.ref a))) (hr : Row K G a xs) (hG : Same G H)
    (Pv : Addr → Nat → Hp → Prop) (h0 : ∀ D, H D = none → Pv D 0 (upd H D (.lst []))) (hk : ∀ D i H', Pv D i H' → Same G H')
    (hs : ∀ D (i : Nat) (x : V) (H' : Hp), H D = none → xs[i]? = some x → Pv D i H' → tg x (wipe σ vs) H' fun σ2 H2 => wipe σ2 vs = wipe σ vs ∧ tt σ2 H2 fun b H3 =>
      if b = true then te σ2 H3 fun y H4 => ∃ acc, H4 D = some (.lst acc) ∧ acc.length < sizeLine ∧ Pv D (i + 1) (upd H4 D (.lst (acc ++ [y]))) else Pv D (i + 1) H3)
    (hd : ∀ D H', H D = none → Pv D xs.length H' → Q (.ref D) H') : tLc (iSeq K (tVar j)) tg tt te vs σ H Q := by
  rcases hr with hr | hr
  · exact .inl ⟨_, hv, a, rfl, ⟨_, hG.seq hr⟩, fun D nD => L2.lc_list (K := K) (a := a) (xs := xs) (fun i H' => Pv D i H') (h0 D nD) (fun i H' _ p => (hk D i H' p).seq hr) (fun i x H' hx p => hs D i x H' nD hx p) (fun H' p => hd D H' nD p)⟩
  · exact .inr ⟨_, hv, a, rfl, ⟨_, sameT hG hr⟩, fun D nD => L2.lc_tup (K := K) (a := a) (xs := xs) (fun i H' => Pv D i H') (h0 D nD) (fun i H' _ p => sameT (hk D i H' p) hr) (fun i x H' hx p => hs D i x H' nD hx p) (fun H' p => hd D H' nD p)⟩
theorem hid_none {p b : Addr} {H : Hp} (h : H b = none) : hid p H b = none := by
  by_cases e : b = p
  · exact if_pos e
  · rw [hid_ne e]
    exact h
theorem hid_hid {D : Addr} {H : Hp} {o : HO} : hid D (upd H D o) = hid D H := by
  funext b
  by_cases e : b = D
  · subst e
    show (if b = b then none else _) = (if b = b then none else _)
    rw [if_pos rfl, if_pos rfl]
  · rw [hid_ne e, hid_ne e, upd_ne e]
end BK

namespace BK
open PySem PySem.Spec PyProof.Rows L2

/-! ## closed literals, as things -/
/-- what is new in H' -/
def since (H H' : Hp) : Hp := fun b => match H b with
  | none => H' b
  | some _ => none
theorem since_at {H H' : Hp} {b : Addr} {o : HO} (h : since H H' b = some o) : H b = none ∧ H' b = some o := by
  unfold since at h
  cases e : H b with
  | none => rw [e] at h; exact ⟨rfl, h⟩
  | some x => rw [e] at h; cases h
theorem since_of {H H' : Hp} {b : Addr} {o : HO} (h1 : H b = none) (h2 : H' b = some o) : since H H' b = some o := by
  unfold since
  rw [h1]
  exact h2
theorem since_same (H H' : Hp) : Same (since H H') H' := fun _ _ h => (since_at h).2
theorem since_mono {H H1 H2 : Hp} (e : Same H1 H2) : Same (since H H1) (since H H2) := fun b o h => since_of (since_at h).1 (e b o (since_at h).2)
theorem since_left {H H1 H2 : Hp} (e : Same H H1) : Same (since H1 H2) (since H H2) := fun b o h => since_of (e.free (since_at h).1) (since_at h).2
theorem since_hid {H H' : Hp} {p : Addr} {o : HO} (hp : H p = some o) : Same (since H H') (hid p H') := fun b x h => by
  rw [hid_ne (fun z => by rw [z] at h; have := (since_at h).1; rw [hp] at this; cases this)]
  exact (since_at h).2
def tLit (K : PySem.W.Frag) (d : Dt) : TE := fun _ H Q => ∀ H' v, Same H H' → At K (since H H') v d → Q v H'
def tLits (K : PySem.W.Frag) (ds : List Dt) : TA := fun _ H Q => ∀ H' vs, Same H H' → Ats K (since H H') vs ds → Q vs H'
section
variable {X : Cx} {e e1 e2 : PySem.Expr} {es : List PySem.Expr} {t t' : TE} {d : Dt} {ds : List Dt} {pos p : Pos} {i : Int} {j k : Nat}
theorem pe_wk (h : PE X e t) (hh : ∀ σ H Q, t' σ H Q → t σ H Q) : PE X e t' := ⟨fun pins s σ H Q I q => h.run pins s σ H Q I (hh σ H Q q)⟩
theorem pa_wk {ta ta' : TA} (h : PA X es ta) (hh : ∀ σ H Q, ta' σ H Q → ta σ H Q) : PA X es ta' := ⟨fun pos pins s σ H Q I q => h.run pos pins s σ H Q I (hh σ H Q q)⟩
theorem la_non {K : PySem.W.Frag} {H : Hp} : At K H .non .non := by unfold At; rfl
theorem la_bl {K : PySem.W.Frag} {H : Hp} {b : Bool} : At K H (.bl b) (.bl b) := by unfold At; rfl
theorem la_int {K : PySem.W.Frag} {H : Hp} {i : Int} : At K H (.int i) (.int i) := by unfold At; rfl
theorem la_str {K : PySem.W.Frag} {H : Hp} {w : List Nat} (h : w.length ≤ 1000000) : At K H (.str (tx w)) (.str w) := by unfold At; exact ⟨rfl, h⟩
theorem la_tup {K : PySem.W.Frag} {H : Hp} {a : Addr} {vs : List V} {ds : List Dt} (h : H a = some (.tup vs)) (hv : Ats K H vs ds) : At K H (.ref a) (.tup ds) := by
  unfold At
  exact ⟨a, vs, rfl, SqT.of h, hv⟩
theorem la_lst {K : PySem.W.Frag} {H : Hp} {a : Addr} {vs : List V} {ds : List Dt} (h : H a = some (.lst vs)) (hv : Ats K H vs ds) : At K H (.ref a) (.lst ds) := by
  unfold At
  exact ⟨a, vs, rfl, SqL.of h, hv⟩
theorem las_nil {K : PySem.W.Frag} {H : Hp} : Ats K H [] [] := by unfold Ats; rfl
theorem las_cons {K : PySem.W.Frag} {H : Hp} {v : V} {vs : List V} {d : Dt} {ds : List Dt} (h : At K H v d) (t : Ats K H vs ds) : Ats K H (v :: vs) (d :: ds) := by
  unfold Ats
  exact ⟨v, vs, rfl, h, t⟩
theorem las_len {K : PySem.W.Frag} {H : Hp} : ∀ {vs : List V} {ds : List Dt}, Ats K H vs ds → vs.length = ds.length
  | vs, [], h => by unfold Ats at h; subst h; rfl
  | vs, d :: ds, h => by
    unfold Ats at h
    obtain ⟨v, us, rfl, _, h2⟩ := h
    rw [List.length_cons, List.length_cons, las_len h2]
theorem las_app {K : PySem.W.Frag} {H : Hp} : ∀ {vs us : List V} {ds es : List Dt}, Ats K H vs ds → Ats K H us es → Ats K H (vs ++ us) (ds ++ es)
  | vs, us, [], es, h, h2 => by unfold Ats at h; subst h; exact h2
  | vs, us, d :: ds, es, h, h2 => by
    unfold Ats at h
    obtain ⟨v, ws, rfl, h3, h4⟩ := h
    exact las_cons h3 (las_app h4 h2)
theorem las_get {K : PySem.W.Frag} {H : Hp} : ∀ {vs : List V} {ds : List Dt} {i : Nat} {d : Dt}, Ats K H vs ds → ds[i]? = some d → ∃ v, vs[i]? = some v ∧ At K H v d
  | vs, [], i, d, h, e => by simp at e
  | vs, c :: ds, i, d, h, e => by
    unfold Ats at h
    obtain ⟨v, ws, rfl, h3, h4⟩ := h
    cases i with
    | zero =>
      cases e
      exact ⟨v, rfl, h3⟩
    | succ i => exact las_get (i := i) h4 e
theorem las_take {K : PySem.W.Frag} {H : Hp} : ∀ {vs : List V} {ds : List Dt} (n : Nat), Ats K H vs ds → Ats K H (vs.take n) (ds.take n)
  | vs, ds, 0, _ => by rw [List.take_zero, List.take_zero]; exact las_nil
  | vs, [], n + 1, h => by unfold Ats at h; subst h; exact las_nil
  | vs, d :: ds, n + 1, h => by
    unfold Ats at h
    obtain ⟨v, ws, rfl, h3, h4⟩ := h
    exact las_cons h3 (las_take n h4)
theorem las_drop {K : PySem.W.Frag} {H : Hp} : ∀ {vs : List V} {ds : List Dt} (n : Nat), Ats K H vs ds → Ats K H (vs.drop n) (ds.drop n)
  | vs, ds, 0, h => h
  | vs, [], n + 1, h => by unfold Ats at h; subst h; exact las_nil
  | vs, d :: ds, n + 1, h => by
    unfold Ats at h
    obtain ⟨v, ws, rfl, h3, h4⟩ := h
    exact las_drop n h4
theorem las_rep {K : PySem.W.Frag} {H : Hp} {v : V} {d : Dt} (h : At K H v d) : ∀ n, Ats K H (List.replicate n v) (List.replicate n d)
  | 0 => las_nil
  | n + 1 => las_cons h (las_rep h n)
theorem flat_one {α : Type} (v : α) : ∀ n, (List.replicate n [v]).flatten = List.replicate n v
  | 0 => rfl
  | n + 1 => by rw [List.replicate_succ, List.flatten_cons, flat_one v n]; rfl

theorem lit_non : PE X (.Constant .none j pos) (tLit X.K .non) := pe_wk pe_non fun σ H Q q => q H _ (Same.refl _) la_non
theorem lit_bl {b : Bool} : PE X (.Constant (.bool b) j pos) (tLit X.K (.bl b)) := pe_wk pe_bl fun σ H Q q => q H _ (Same.refl _) la_bl
theorem lit_int : PE X (.Constant (.int i) j pos) (tLit X.K (.int i)) := pe_wk pe_int fun σ H Q q => q H _ (Same.refl _) la_int
theorem lit_str {z : Str} (w : List Nat) (hz : z = tx w) (hl : w.length ≤ 1000000) : PE X (.Constant (.str z) j pos) (tLit X.K (.str w)) := pe_wk pe_str fun σ H Q q => by
  subst hz
  exact q H _ (Same.refl _) (la_str hl)
theorem lit_neg : PE X (.UnaryOp .USub (.Constant (.int i) j p) pos) (tLit X.K (.int (-i))) := pe_wk (pe_un un_neg pe_int) fun σ H Q q => ⟨i, rfl, q H _ (Same.refl _) la_int⟩
theorem lit_negE (h : PE X e (tLit X.K (.int i))) : PE X (.UnaryOp .USub e pos) (tLit X.K (.int (-i))) := pe_wk (pe_un un_neg h) fun σ H Q q H' v s hv => by
  unfold At at hv
  exact ⟨i, hv, q H' _ s la_int⟩
theorem lits_nil : PA X [] (tLits X.K []) := pa_wk pa_nil fun σ H Q q => q H _ (Same.refl _) las_nil
theorem lits_cons (h : PE X e (tLit X.K d)) (t : PA X es (tLits X.K ds)) (hs : starEach (e :: es) X.env = (false, eval e X.env) :: starEach es X.env := by rfl) : PA X (e :: es) (tLits X.K (d :: ds)) :=
  pa_wk (pa_cons h t hs) fun σ H Q q H1 v s1 hv H2 vs s2 hvs => q H2 _ (s1.trans s2) (las_cons (At.same (since_mono s2) _ _ hv) (Ats.same (since_left s1) _ _ hvs))
theorem lit_tup {x1} (h : PA X es (tLits X.K ds)) (hl : ds.length ≤ sizeLine) : PE X (.Tuple es x1 pos) (tLit X.K (.tup ds)) := pe_wk (pe_tup h) fun σ H Q q H1 vs s1 hvs =>
  ⟨by rw [las_len hvs]; exact hl, fun a na => q _ _ (s1.trans (same_upd na)) (la_tup (since_of (s1.free na) upd_same) (Ats.same (since_mono (same_upd na)) _ _ hvs))⟩
theorem lit_lst (h : PA X es (tLits X.K ds)) (hl : ds.length ≤ sizeLine) : PE X (.List es pos) (tLit X.K (.lst ds)) := pe_wk (pe_lst h) fun σ H Q q H1 vs s1 hvs =>
  ⟨by rw [las_len hvs]; exact hl, fun a na => q _ _ (s1.trans (same_upd na)) (la_lst (since_of (s1.free na) upd_same) (Ats.same (since_mono (same_upd na)) _ _ hvs))⟩
theorem lit_dic : PE X (.Dict [] [] pos) (tLit X.K .dic) := pe_wk pe_dnewK fun σ H Q q a na => q _ _ (same_upd na) (by unfold At; exact ⟨a, rfl, since_of na upd_same⟩)
theorem lit_mulS {z : Str} {p2 : Pos} (n : Nat) (hi : i = (n : Int)) (w r : List Nat) (hz : z = tx w) (hr : w.length = 1 ∧ (List.replicate n w).flatten = r) (hn : n ≤ 1000000) : PE X (.BinOp (.Constant (.str z) j p) .Mult (.Constant (.int i) k p2) pos) (tLit X.K (.str r)) :=
  pe_wk (pe_op op_mul_str pe_str pe_int) fun σ H Q q => by
    subst hz hi
    refine ⟨_, _, rfl, rfl, mul_ok 1 1000000 (by omega) hn (by decide) (by decide), ?_⟩
    rw [mul_tx w n, hr.2]
    exact q H _ (Same.refl _) (la_str (by rw [← hr.2, List.length_flatten, List.map_replicate, List.sum_replicate_nat, hr.1]; omega))
theorem lit_mulL (n : Nat) {p2 : Pos} (hi : i = (n : Int)) (h : PE X e (tLit X.K d)) (hn : n ≤ 1000000) (hs : starEach [e] X.env = (false, eval e X.env) :: starEach [] X.env := by rfl) : PE X (.BinOp (.List [e] p) .Mult (.Constant (.int i) k p2) pos) (tLit X.K (.lst (List.replicate n d))) :=
  pe_wk (pe_op op_rep (pe_lst (pa_cons h pa_nil hs)) pe_int) fun σ H Q q H1 v s1 hv => by
    subst hi
    refine ⟨by show 1 ≤ sizeLine; decide, fun a na => ⟨a, _, [v], rfl, rfl, upd_same, by omega, by omega, by show [v].length * _ ≤ _; simp only [List.length_singleton, Int.toNat_natCast]; exact Nat.le_trans (by omega) (show 1000000 ≤ sizeLine by decide), fun b nb => ?_⟩⟩
    have sb := (same_upd (o := .lst [v]) na).trans (same_upd (o := .lst (List.replicate (n : Int).toNat [v]).flatten) nb)
    have e1 : (List.replicate (n : Int).toNat [v]).flatten = List.replicate n v := by rw [Int.toNat_natCast, flat_one]
    rw [e1] at sb ⊢
    exact q _ _ (s1.trans sb) (la_lst (since_of (s1.free (by
      cases e : H1 b with
      | none => rfl
      | some o => exact absurd (same_upd na _ _ e) (by rw [nb]; exact nofun))) upd_same) (las_rep (At.same (since_mono sb) _ _ hv) n))
theorem lit_pow {a b : Nat} {i2 : Int} {k2 : Nat} {p2 : Pos} (hc : b ≤ 1000000 ∧ a < 2 ^ 64) (h1 : i = (a : Int)) (h2 : i2 = (b : Int)) : PE X (.BinOp (.Constant (.int i) j p) .Pow (.Constant (.int i2) k2 p2) pos) (tLit X.K (.int ((a : Int) ^ b))) :=
  pe_wk (pe_op op_pow pe_int pe_int) fun σ H Q q => by
    subst h1 h2
    exact ⟨_, _, rfl, rfl, ⟨by omega, by omega, by omega⟩, q H _ (Same.refl _) la_int⟩
theorem lit_add {i2 : Int} (h1 : PE X e1 (tLit X.K (.int i))) (h2 : PE X e2 (tLit X.K (.int i2))) (_ : True) : PE X (.BinOp e1 .Add e2 pos) (tLit X.K (.int (i + i2))) :=
  pe_wk (pe_op op_add h1 h2) fun σ H Q q H1 v s1 hv H2 u s2 hu => by
    unfold At at hv hu
    exact ⟨_, _, hv, hu, q H2 _ (s1.trans s2) la_int⟩
theorem lit_sub {i2 : Int} (h1 : PE X e1 (tLit X.K (.int i))) (h2 : PE X e2 (tLit X.K (.int i2))) (_ : True) : PE X (.BinOp e1 .Sub e2 pos) (tLit X.K (.int (i - i2))) :=
  pe_wk (pe_op op_sub h1 h2) fun σ H Q q H1 v s1 hv H2 u s2 hu => by
    unfold At at hv hu
    exact ⟨_, _, hv, hu, q H2 _ (s1.trans s2) la_int⟩
theorem lit_mul {i2 : Int} (h1 : PE X e1 (tLit X.K (.int i))) (h2 : PE X e2 (tLit X.K (.int i2))) (hc : i.natAbs < 2 ^ 64) : PE X (.BinOp e1 .Mult e2 pos) (tLit X.K (.int (i * i2))) :=
  pe_wk (pe_op op_mul h1 h2) fun σ H Q q H1 v s1 hv H2 u s2 hu => by
    unfold At at hv hu
    exact ⟨_, _, hv, hu, .inl ⟨by omega, by omega⟩, q H2 _ (s1.trans s2) la_int⟩
end

theorem lit_K {X : Cx} {e : PySem.Expr} {d : Dt} (K : PySem.W.Frag) (h : PE X e (tLit X.K d)) (hK : X.K = K := by rfl) : PE X e (tLit K d) := hK ▸ h
/-! ## reprs where an empty dict may be within -/
mutual
def FitD : Dt → Prop
  | .non => True
  | .bl _ => True
  | .int i => i.natAbs < 10 ^ 47
  | .str w => ∀ c ∈ w, c < 4294967296
  | .lst ds => FitDs ds
  | .tup ds => FitDs ds
  | .dic => True
def FitDs : List Dt → Prop
  | [] => True
  | d :: ds => FitD d ∧ FitDs ds
end
theorem fitDs_of : ∀ {ds : List Dt}, (∀ d ∈ ds, FitD d) → FitDs ds
  | [], _ => by unfold FitDs; trivial
  | d :: ds, h => by unfold FitDs; exact ⟨h d (List.mem_cons_self ..), fitDs_of fun x hx => h x (List.mem_cons_of_mem _ hx)⟩
theorem fitDs_mem : ∀ {ds : List Dt}, FitDs ds → ∀ {e}, e ∈ ds → FitD e
  | [], _, e, h => by cases h
  | d :: ds, f, e, h => by
    unfold FitDs at f
    rcases List.mem_cons.mp h with rfl | h
    · exact f.1
    · exact fitDs_mem f.2 h
mutual
theorem fitD_of : ∀ d : Dt, Fits d → FitD d
  | .non, _ => by unfold FitD; trivial
  | .bl _, _ => by unfold FitD; trivial
  | .int i, h => by unfold Fits at h; unfold FitD; exact h
  | .str w, h => by unfold Fits at h; unfold FitD; exact h
  | .lst ds, h => by unfold Fits at h; unfold FitD; exact fitDs_ofA ds h
  | .tup ds, h => by unfold Fits at h; unfold FitD; exact fitDs_ofA ds h
  | .dic, h => by unfold FitD; trivial
theorem fitDs_ofA : ∀ ds : List Dt, FitsAll ds → FitDs ds
  | [], _ => by unfold FitDs; trivial
  | d :: ds, h => by unfold FitsAll at h; unfold FitDs; exact ⟨fitD_of d h.1, fitDs_ofA ds h.2⟩
end
mutual
theorem fitD_short : ∀ d : Dt, FitD d → d.py.leavesShort 48 = true ∧ d.py.showable = true
  | .non, _ => by simp only [Dt.py, PyData.leavesShort, PyData.showable, and_self]
  | .bl _, _ => by simp only [Dt.py, PyData.leavesShort, PyData.showable, and_self]
  | .int i, h => by
    unfold FitD at h
    simp only [Dt.py, PyData.leavesShort, PyData.showable, decide_eq_true_eq]
    exact ⟨int48 h, int_log h⟩
  | .str w, h => by
    unfold FitD at h
    simp only [Dt.py, PyData.leavesShort, PyData.showable, tx_cps, List.all_eq_true, decide_eq_true_eq, and_true]
    exact fun c hc => h c hc
  | .lst ds, h => by
    unfold FitD at h
    simp only [Dt.py, PyData.leavesShort, PyData.showable]
    exact fitDs_short ds h
  | .tup ds, h => by
    unfold FitD at h
    simp only [Dt.py, PyData.leavesShort, PyData.showable]
    exact fitDs_short ds h
  | .dic, h => by simp only [Dt.py, PyData.leavesShort, PyData.leavesShortKv, PyData.showable, PyData.showableKv, and_self]
theorem fitDs_short : ∀ ds : List Dt, FitDs ds → PyData.leavesShortAll 48 (pyAll ds) = true ∧ PyData.showableAll (pyAll ds) = true
  | [], _ => by simp only [pyAll, PyData.leavesShortAll, PyData.showableAll, and_self]
  | d :: ds, h => by
    unfold FitDs at h
    have h1 := fitD_short d h.1
    have h2 := fitDs_short ds h.2
    simp only [pyAll, PyData.leavesShortAll, PyData.showableAll, h1.1, h1.2, h2.1, h2.2, Bool.and_self, and_self]
end
theorem not_mods {X : Cx} {pins : List (Addr × Obj)} {σ : L2.St} {H : Hp} {s : Shared} (hm : Mods X.base) (I : L2.Inv X pins σ H s) {a : Addr} {o : Obj} {vs : Array Value} {n : Nat} (h : s.heap.get? a = some o) (hd : o.data = .seq vs n) : sysModules ≠ a := by
  intro z
  subst z
  obtain ⟨mm, ob, es, ep, h1, h2, h3⟩ := hm
  have := (I.bs _ _ h1).1
  rw [h] at this
  cases this
  rw [hd] at h2
  cases h2
section
variable {X : Cx} {pins : List (Addr × Obj)} {σ : L2.St} {H : Hp} {s : Shared}
mutual
theorem reads_D (hm : Mods X.base) (I : L2.Inv X pins σ H s) : ∀ (d : Dt) (v : V) (u : Value), At X.K H v d → RelV v u → FitD d → ∃ as, Reads s.heap u d.py as ∧ sysModules ∉ as
  | .non, v, u, h, r, _ => by
    unfold At at h
    subst h
    cases (show u = Value.none from r)
    simp only [Dt.py]
    exact ⟨_, .none, List.not_mem_nil⟩
  | .bl b, v, u, h, r, _ => by
    unfold At at h
    subst h
    cases (show u = Value.bool b from r)
    simp only [Dt.py]
    exact ⟨_, .bool b, List.not_mem_nil⟩
  | .int i, v, u, h, r, _ => by
    unfold At at h
    subst h
    obtain ⟨t, rfl⟩ := r
    simp only [Dt.py]
    exact ⟨_, .int i t, List.not_mem_nil⟩
  | .str w, v, u, h, r, _ => by
    unfold At at h
    obtain ⟨rfl, _⟩ := h
    obtain ⟨t, rfl⟩ := r
    simp only [Dt.py]
    exact ⟨_, .str _ t, List.not_mem_nil⟩
  | .lst ds, v, u, h, r, f => by
    unfold At at h
    unfold FitD at f
    obtain ⟨a, xs, rfl, h1, h2⟩ := h
    cases (show u = Value.ref a from r)
    obtain ⟨its, rv, ⟨o, n, e1, e2, _, e3⟩, _⟩ := I.list h1
    obtain ⟨as, k, kn⟩ := reads_Ds hm I ds xs its h2 rv f
    simp only [Dt.py]
    exact ⟨_, .list e1 e2 e3 (by rw [List.toList_toArray]; exact k), fun z => (List.mem_cons.mp z).elim (not_mods hm I e1 e3) kn⟩
  | .tup ds, v, u, h, r, f => by
    unfold At at h
    unfold FitD at f
    obtain ⟨a, xs, rfl, h1, h2⟩ := h
    cases (show u = Value.ref a from r)
    obtain ⟨its, rv, ⟨o, e1, e2, n, e3⟩, _⟩ := I.tuple h1
    obtain ⟨as, k, kn⟩ := reads_Ds hm I ds xs its h2 rv f
    simp only [Dt.py]
    exact ⟨_, .tuple e1 e2 e3 (by rw [List.toList_toArray]; exact k), kn⟩
  | .dic, v, u, h, r, f => by
    unfold At at h
    obtain ⟨a, rfl, h1⟩ := h
    cases (show u = Value.ref a from r)
    obtain ⟨_, hne, vs, kv, o, es, ep, e1, e2, e3, e4⟩ := I.hok a _ h1
    cases kv
    have e5 : es.toList = [] := by
      obtain ⟨_, p, _⟩ := e4
      cases hl : es.toList with
      | nil => rfl
      | cons x l =>
        rw [hl] at p
        cases p
    simp only [Dt.py]
    refine ⟨_, .dict (kvs := []) (as := []) (bs := []) e1 e2.1 e3 (by rw [e5]; exact .nil) (by rw [e5]; exact .nil), fun z => ?_⟩
    rcases List.mem_cons.mp z with z | z
    · exact absurd z.symm (beq_eq_false_iff_ne.mp hne)
    · cases z
theorem reads_Ds (hm : Mods X.base) (I : L2.Inv X pins σ H s) : ∀ (ds : List Dt) (vs : List V) (us : List Value), Ats X.K H vs ds → Vals vs us → FitDs ds → ∃ as, ReadsAll s.heap us (pyAll ds) as ∧ sysModules ∉ as
  | [], vs, us, h, r, _ => by
    unfold Ats at h
    subst h
    cases r
    simp only [pyAll]
    exact ⟨_, .nil, List.not_mem_nil⟩
  | d :: ds, vs, us, h, r, f => by
    unfold Ats at h
    unfold FitDs at f
    obtain ⟨v, ws, rfl, h1, h2⟩ := h
    cases r with
    | cons r1 r2 =>
      obtain ⟨a1, k1, n1⟩ := reads_D hm I d v _ h1 r1 f.1
      obtain ⟨a2, k2, n2⟩ := reads_Ds hm I ds ws _ h2 r2 f.2
      simp only [pyAll]
      exact ⟨_, .cons k1 k2, fun z => (List.mem_append.mp z).elim n1 n2⟩
end
end
def NeatD (d : Dt) : Prop := FitD d ∧ deep d ≤ 60 ∧ bulk d ≤ 300000
theorem Neat.d {d : Dt} (h : Neat d) : NeatD d := ⟨fitD_of _ h.1, h.2⟩
theorem neatD_size {d : Dt} (h : NeatD d) : (shw d).length ≤ sizeLine := by
  have h1 := PyData.shown_le_bulk 48 (by decide) d.py (fitD_short d h.1).1
  rw [bulk_py] at h1
  have h2 : (48 + 2) * bulk d ≤ 50 * 300000 := Nat.mul_le_mul (Nat.le_refl _) h.2.2
  have h3 : sizeLine = 16777216 := by decide
  unfold shw
  omega
def rReprD (K : PySem.W.Frag) : List V → Hp → VK → Prop := fun xs H Q => ∃ (p : Addr) (d : Dt), xs = [.ref p] ∧ At K H (.ref p) d ∧ NeatD d ∧ Q (.str (shw d)) H
theorem call_reprD {X : Cx} (hm : Mods X.base) (hg : X.A.guards = some []) (hu : X.A.units + 64 < cLine) : CallR X (.builtin "repr") (rReprD X.K) := by
  intro pins s σ H xs us Q I r h
  obtain ⟨p, d, rfl, hat, hn, q⟩ := h
  obtain ⟨u, rfl, rp⟩ := vals1 r
  cases (show u = Value.ref p from rp)
  obtain ⟨as, rd, no⟩ := reads_D hm I d _ _ hat rfl hn.1
  refine repr_of_reads' rd (fitD_short d hn.1).2 (fun _ => no) hg (by rw [depth_py]; have := hn.2.1; omega) (fun _ _ e => e) (fun h' t tk hk => ?_) (neatD_size hn)
  exact ⟨.str (shw d), H, I.kept (t' := tk) (fun b o e => hk b o e), ⟨t, rfl⟩, q⟩
end BK

namespace BK
open PySem PySem.Spec PyProof.Rows L2

theorem few_le {n : Nat} (h : n ≤ 1000) : n ≤ sizeLine := Nat.le_trans h (by decide)
/-! ## things written out of literals and of what stands in slots; p is the spring, which is left out -/
def addD : Dt → Dt → Dt
  | .int a, .int b => .int (a + b)
  | _, _ => .non
def subD : Dt → Dt → Dt
  | .int a, .int b => .int (a - b)
  | _, _ => .non
def mulD : Dt → Dt → Dt
  | .int a, .int b => .int (a * b)
  | _, _ => .non
/-- what stands in the slots U, and that in the slots I stand whole numbers (less than 10^100) -/
def Slots (K : PySem.W.Frag) (U I : List Nat) (p : Addr) (ρ : Nat → Dt) (σ : L2.St) (H : Hp) : Prop :=
  (∃ o, H p = some o) ∧ (∀ i ∈ U, ∃ v, σ[i]? = some (some v) ∧ At K (hid p H) v (ρ i)) ∧ ∀ i ∈ I, ∃ a : Int, ρ i = .int a ∧ a.natAbs < 10 ^ 100
theorem Slots.mono {K : PySem.W.Frag} {U I : List Nat} {p : Addr} {ρ : Nat → Dt} {σ : L2.St} {H H' : Hp} (h : Slots K U I p ρ σ H) (s : Same H H') : Slots K U I p ρ σ H' :=
  ⟨h.1.elim fun o e => ⟨o, s _ _ e⟩, fun i hi => (h.2.1 i hi).elim fun v e => ⟨v, e.1, At.same (hid_mono s) _ _ e.2⟩, h.2.2⟩
def tThg (K : PySem.W.Frag) (U I : List Nat) (tm : (Nat → Dt) → Dt) : TE := fun σ H Q => ∃ p ρ, Slots K U I p ρ σ H ∧ ∀ H' v, Same H H' → At K (hid p H') v (tm ρ) → Q v H'
def tThgs (K : PySem.W.Frag) (U I : List Nat) (tm : (Nat → Dt) → List Dt) : TA := fun σ H Q => ∃ p ρ, Slots K U I p ρ σ H ∧ ∀ H' vs, Same H H' → Ats K (hid p H') vs (tm ρ) → Q vs H'
/-- whole numbers -/
def tNum (K : PySem.W.Frag) (U I : List Nat) (tm : (Nat → Dt) → Int) : TE := fun σ H Q => ∃ p ρ, Slots K U I p ρ σ H ∧ Q (.int (tm ρ)) H
def intD : Dt → Int
  | .int a => a
  | _ => 0
section
variable {X : Cx} {e e1 e2 : PySem.Expr} {es : List PySem.Expr} {t t' : TE} {pos : Pos} {U I : List Nat} {tm tm1 tm2 : (Nat → Dt) → Dt} {tms : (Nat → Dt) → List Dt} {n1 n2 : (Nat → Dt) → Int} {i : Nat} {k : Int} {j : Nat}
theorem tg_lit {d : Dt} (h : PE X e (tLit X.K d)) : PE X e (tThg X.K U I fun _ => d) := pe_wk h fun σ H Q q H' v s hv => by
  obtain ⟨p, ρ, hS, q⟩ := q
  obtain ⟨o, ho⟩ := hS.1
  exact q H' v s (At.same (since_hid ho) _ _ hv)
theorem tg_var (h : PE X e (tVar i)) (hi : i ∈ U) : PE X e (tThg X.K U I fun ρ => ρ i) := pe_wk h fun σ H Q q => by
  obtain ⟨p, ρ, hS, q⟩ := q
  obtain ⟨v, h1, h2⟩ := hS.2.1 i hi
  exact ⟨v, h1, q H v (Same.refl _) h2⟩
theorem tn_lit : PE X (.Constant (.int k) j pos) (tNum X.K U I fun _ => k) := pe_wk pe_int fun σ H Q q => by
  obtain ⟨p, ρ, hS, q⟩ := q
  exact q
theorem tn_var (h : PE X e (tVar i)) (hi : i ∈ U) (hI : i ∈ I) : PE X e (tNum X.K U I fun ρ => intD (ρ i)) := pe_wk h fun σ H Q q => by
  obtain ⟨p, ρ, hS, q⟩ := q
  obtain ⟨v, h1, h2⟩ := hS.2.1 i hi
  obtain ⟨a, h3, _⟩ := hS.2.2 i hI
  have q : Q (V.int (intD (ρ i))) H := q
  rw [h3] at h2 q
  unfold At at h2
  subst h2
  exact ⟨_, h1, q⟩
theorem tn_add (h1 : PE X e1 (tNum X.K U I n1)) (h2 : PE X e2 (tNum X.K U I n2)) : PE X (.BinOp e1 .Add e2 pos) (tNum X.K U I fun ρ => n1 ρ + n2 ρ) := pe_wk (pe_op op_add h1 h2) fun σ H Q q => by
  obtain ⟨p, ρ, hS, q⟩ := q
  exact ⟨p, ρ, hS, p, ρ, hS, _, _, rfl, rfl, q⟩
theorem tn_sub (h1 : PE X e1 (tNum X.K U I n1)) (h2 : PE X e2 (tNum X.K U I n2)) : PE X (.BinOp e1 .Sub e2 pos) (tNum X.K U I fun ρ => n1 ρ - n2 ρ) := pe_wk (pe_op op_sub h1 h2) fun σ H Q q => by
  obtain ⟨p, ρ, hS, q⟩ := q
  exact ⟨p, ρ, hS, p, ρ, hS, _, _, rfl, rfl, q⟩
theorem tg_num (h : PE X e (tNum X.K U I n1)) : PE X e (tThg X.K U I fun ρ => .int (n1 ρ)) := pe_wk h fun σ H Q q => by
  obtain ⟨p, ρ, hS, q⟩ := q
  exact ⟨p, ρ, hS, q H _ (Same.refl _) la_int⟩
theorem tgs_nil : PA X [] (tThgs X.K U I fun _ => []) := pa_wk pa_nil fun σ H Q q => by
  obtain ⟨p, ρ, hS, q⟩ := q
  exact q H _ (Same.refl _) las_nil
theorem tgs_cons (h : PE X e (tThg X.K U I tm)) (t : PA X es (tThgs X.K U I tms)) (hs : starEach (e :: es) X.env = (false, eval e X.env) :: starEach es X.env := by rfl) : PA X (e :: es) (tThgs X.K U I fun ρ => tm ρ :: tms ρ) :=
  pa_wk (pa_cons h t hs) fun σ H Q q => by
    obtain ⟨p, ρ, hS, q⟩ := q
    exact ⟨p, ρ, hS, fun H1 v s1 hv => ⟨p, ρ, hS.mono s1, fun H2 vs s2 hvs => q H2 _ (s1.trans s2) (las_cons (At.same (hid_mono s2) _ _ hv) hvs)⟩⟩
theorem hid_new {H : Hp} {p a : Addr} {o u : HO} (hp : H p = some o) (na : H a = none) : hid p (upd H a u) a = some u := by
  rw [hid_ne (fun z => by rw [z, hp] at na; cases na), upd_same]
theorem tg_tup {x1} (h : PA X es (tThgs X.K U I tms)) (hl : ∀ ρ, (tms ρ).length ≤ sizeLine) : PE X (.Tuple es x1 pos) (tThg X.K U I fun ρ => .tup (tms ρ)) := pe_wk (pe_tup h) fun σ H Q q => by
  obtain ⟨p, ρ, hS, q⟩ := q
  refine ⟨p, ρ, hS, fun H1 vs s1 hvs => ⟨by rw [las_len hvs]; exact hl ρ, fun a na => ?_⟩⟩
  obtain ⟨o, ho⟩ := (hS.mono s1).1
  exact q _ _ (s1.trans (same_upd na)) (la_tup (hid_new ho na) (Ats.same (hid_mono (same_upd na)) _ _ hvs))
theorem tg_lst (h : PA X es (tThgs X.K U I tms)) (hl : ∀ ρ, (tms ρ).length ≤ sizeLine) : PE X (.List es pos) (tThg X.K U I fun ρ => .lst (tms ρ)) := pe_wk (pe_lst h) fun σ H Q q => by
  obtain ⟨p, ρ, hS, q⟩ := q
  refine ⟨p, ρ, hS, fun H1 vs s1 hvs => ⟨by rw [las_len hvs]; exact hl ρ, fun a na => ?_⟩⟩
  obtain ⟨o, ho⟩ := (hS.mono s1).1
  exact q _ _ (s1.trans (same_upd na)) (la_lst (hid_new ho na) (Ats.same (hid_mono (same_upd na)) _ _ hvs))
/-- a list of things, new -/
def tNew (K : PySem.W.Frag) (U I : List Nat) (tms : (Nat → Dt) → List Dt) : TE := fun σ H Q => ∃ p ρ, Slots K U I p ρ σ H ∧ ∀ H' vs a, Same H H' → H' a = none → Ats K (hid p H') vs (tms ρ) → Q (.ref a) (upd H' a (.lst vs))
theorem tg_new (h : PA X es (tThgs X.K U I tms)) (hl : ∀ ρ, (tms ρ).length ≤ sizeLine) : PE X (.List es pos) (tNew X.K U I tms) := pe_wk (pe_lst h) fun σ H Q q => by
  obtain ⟨p, ρ, hS, q⟩ := q
  exact ⟨p, ρ, hS, fun H1 vs s1 hvs => ⟨by rw [las_len hvs]; exact hl ρ, fun a na => q H1 vs a s1 na hvs⟩⟩
/-- a list of things, joined to one in slot i -/
def tJoin (K : PySem.W.Frag) (U I : List Nat) (i : Nat) (tms : (Nat → Dt) → List Dt) : TE := fun σ H Q => ∃ p ρ l xs ds, Slots K U I p ρ σ H ∧ σ[i]? = some (some (.ref l)) ∧ H l = some (.lst xs) ∧ Ats K (hid p H) xs ds ∧ ds.length ≤ 10000 ∧
  ∀ H' vs a, Same H H' → H' a = none → Ats K (hid p H') vs (ds ++ tms ρ) → Q (.ref a) (upd H' a (.lst vs))
theorem tg_join {pos2 : Pos} (h1 : PE X e (tVar i)) (h : PA X es (tThgs X.K U I tms)) (hl : ∀ ρ, (tms ρ).length ≤ 1000) : PE X (.BinOp e .Add (.List es pos2) pos) (tJoin X.K U I i tms) := pe_wk (pe_op op_cat h1 (tg_new h fun ρ => few_le (hl ρ))) fun σ H Q q => by
  obtain ⟨p, ρ, l, xs, ds, hS, h2, h3, h4, h5, q⟩ := q
  refine ⟨_, h2, p, ρ, hS, fun H1 vs a s1 na hvs => ?_⟩
  have s2 := s1.trans (same_upd (o := .lst vs) na)
  refine ⟨l, a, xs, vs, rfl, rfl, s2 _ _ h3, upd_same, ?_, fun b nb => ?_⟩
  · rw [las_len h4, las_len hvs]
    have := hl ρ
    exact Nat.le_trans (show ds.length + (tms ρ).length ≤ 11000 by omega) (by decide)
  · exact q _ _ b s2 nb (las_app (Ats.same (hid_mono s2) _ _ h4) (Ats.same (hid_mono (same_upd na)) _ _ hvs))
end
end BK

namespace BK
open PySem PySem.Spec PyProof.Rows L2

/-! ## errors that are kept behind their clause -/
/-- an error of the class cls that was caught, kept at a -/
def ExB (cls : Value) (d : Option Addr) (a : Addr) : HO := .ext fun h => ∃ (oe : Obj) (vs : Array Value), h.get? a = some oe ∧ Zc cls d oe ∧ oe.data = .fields vs
section
variable {X : Cx} {pins : List (Addr × Obj)} {σ : L2.St} {H : Hp} {s : Shared} {a : Addr} {oe : Obj} {vs : Array Value} {cls : Value} {d : Option Addr}
theorem inv_keep (I : L2.Inv X ((a, oe) :: pins) σ H s) (n0 : ∀ o, X.s_0.heap.get? a = some o → X.H_0 a = none → a ∉ X.ex → False) (hp : ∀ p ∈ X.pn ++ pins, p.1 ≠ a) (hz : Zc cls d oe) (hd : oe.data = .fields vs) : L2.Inv X pins σ (upd H a (ExB cls d a)) s := by
  obtain ⟨ha, na, nL, nF, nc⟩ := I.pin (a, oe) (List.mem_append_right _ List.mem_cons_self)
  have off : ∀ {b : Addr} {u : HO}, H b = some u → b ≠ a := fun {b u} e z => by
    rw [z, na] at e
    cases e
  refine ⟨I.ok, I.os, I.bare, ⟨I.base.keep, I.base.slot, fun b o e n hx => ?_, I.base.there, fun b xs e => ?_, fun b o u e => ?_, fun b ps e => ?_⟩, I.loc, I.cell, ?_, fun x c e => ?_, fun p hm => ?_, ?_, I.len⟩
  · by_cases hb : b = a
    · subst hb
      exact (n0 o e n hx).elim
    · rw [upd_ne hb]
      exact I.base.free b o e n hx
  · have q := I.base.tups b xs e
    rw [upd_ne (off q)]
    exact q
  · have q := I.base.frzs b o u e
    rw [upd_ne (off q)]
    exact q
  · obtain ⟨m, q⟩ := I.base.tbls b ps e
    exact ⟨m, by rw [upd_ne (off q)]; exact q⟩
  · rw [upd_ne (fun z => nL z.symm)]
    exact I.free
  · have hc : c ≠ a := fun z => by
      obtain ⟨v, o, ho, hv⟩ := I.cell x c e
      rw [z, ha] at ho
      cases ho
      exact nc v hv
    rw [upd_ne hc]
    exact I.freeC x c e
  · obtain ⟨e, n, ne, nf, hv⟩ := I.pin p (by
      rcases List.mem_append.mp hm with z | z
      · exact List.mem_append_left _ z
      · exact List.mem_append_right _ (List.mem_cons_of_mem _ z))
    exact ⟨e, by rw [upd_ne (hp p hm)]; exact n, ne, nf, hv⟩
  · exact I.hok.laidN (fun _ _ q => q) na ⟨⟨oe, vs, ha, hz, hd⟩, ⟨oe, ha⟩, fun _ _ ⟨o, v, q, r⟩ k => ⟨o, v, k o q, r⟩⟩
end
/-- what a clause wishes: behind its suite, where it runs on, the error is kept -/
def wKeep (K : PySem.W.Frag) (c : Value) (i : Nat) (ts : Addr → Value → Option Addr → TS) (Wout : WX) (D : Ends) : WX := fun cls d σ H =>
  ∃ b, PySem.W.exmOne K cls c = some b ∧ (b = true → ∀ a, H a = none → ts a cls d { nx := fun σ1 H1 => H1 a = none → D.nx (σ1.set i none) (upd H1 a (ExB cls d a)), rt := D.rt, bk := fun σ1 H1 => D.bk (σ1.set i none) H1, ct := fun σ1 H1 => D.ct (σ1.set i none) H1 } (σ.set i (some (.ref a))) H) ∧
    (b = false → Wout cls d σ H)
theorem inv_pinned {X : Cx} {pins pn' : List (Addr × Obj)} {σ : L2.St} {H : Hp} {s : Shared} {a : Addr} {q : Addr × Obj} (I : L2.Inv (X.suite a (q :: (X.pn ++ pins))) pn' σ H s) (ok : X.Ok) : L2.Inv X (q :: pins) σ H s :=
  ⟨ok, I.os, I.bare, I.base, I.loc, I.cell, I.free, I.freeC, fun p hp => I.pin p (List.mem_append_left _ (by
    rcases List.mem_append.mp hp with z | z
    · exact List.mem_cons_of_mem _ (List.mem_append_left _ z)
    · rcases List.mem_cons.mp z with z | z
      · rw [z]
        exact List.mem_cons_self
      · exact List.mem_cons_of_mem _ (List.mem_append_right _ z))), I.hok, I.len⟩
section
variable {X : Cx} {x n : Str} {c : Value} {i : Nat} {body suite : List Stmt} {b0 : Stmt} {np pos pos' : Pos} {tb : WX → TS} {ts : Addr → Value → Option Addr → TS} {Wout : WX}
/-- try: body, except x as n: suite -/
theorem ps_tryK (hs : X.stack = X.env :: X.outer) (hf : X.env.frame = some X.env.locals) (hN : X.N.Nodup) (hi : X.N[i]? = some n) (hln : X.env.kindOf n = some .local) (hc : Names X x c) (tk : Takes X Wout)
    (hb : ∀ (W : WX) (pn : List (Addr × Obj)) (xe : Value → Shared → Prop), Takes (X.tr pn xe) W → PassesOwn (model X.prog X.w) X.A X.env xe → PSs (X.tr pn xe) body (tb W))
    (hsu : ∀ (a : Addr) (oe : Obj) (cls : Value) (d : Option Addr) (pn : List (Addr × Obj)), Zc cls d oe → (∃ vs, oe.data = .fields vs) → PSs (X.suite a ((a, oe) :: pn)) (b0 :: suite) (ts a cls d)) :
    PS X (.Try body [.ExceptHandler (some (.Name x np)) (some n) (b0 :: suite) pos'] [] [] pos) (fun D σ H => tb (wKeep X.K c i ts Wout D) D σ H) := by
  refine ⟨fun pins s σ H D I h => ?_⟩
  have ok := I.ok
  have fr : X.A.frames = some (X.env :: X.outer) := ok.frames.trans (by rw [hs])
  refine wpAny_Try_except (wpAny_mono ((hb (wKeep X.K c i ts Wout D) (X.pn ++ pins) (fun e s1 => wpAny (model X.prog X.w) X.A (noteFrame e X.env) (fun _ s2 => wpAny (model X.prog X.w) X.A (setFlight e none) (fun _ s3 =>
    wpAny (model X.prog X.w) X.A (handleBy e X.env [.ExceptHandler (some (.Name x np)) (some n) (b0 :: suite) pos']) (SP X pins D) X.xe s3) X.xe s2) X.xe s1) (fun u s' xx => ?_) PassesOwn.looking).run [] s σ H D (I.toTry _) h) (fun f s1 hsp => ?_) (fun _ _ z => z))
  · obtain ⟨a, B, sI, pins', σ1, H1, cls, d, rfl, J0, nb, up, sky, na, os, ag, b, hb1, hyes, hno⟩ := xx
    have J : L2.Inv X pins σ1 H1 sI := J0.ofTry ok
    show wpAny (model X.prog X.w) X.A (noteFrame (.ref a) X.env) _ _ _
    refine Sky.land Zc.steady fr hf (by rw [← hs]; exact sky) fun h3 fl3 up3 => ?_
    have J3 : L2.Inv X pins σ1 H1 { s' with heap := h3 } := J.landed nb fl3.1 (up.trans up3) os ag
    obtain ⟨oe3, vs3, he3, hz3, hd3⟩ := fl3.there
    have nfr : a ∉ frs (X.env :: X.outer) := fun hm => by
      obtain ⟨_, o1, e1, hnf⟩ := fl3.2.2.1.mem hm
      rw [he3] at e1
      cases e1
      exact hnf _ hd3
    have nL : a ≠ X.env.locals := fun z => nfr (List.mem_filterMap.mpr ⟨X.env, List.mem_cons_self, by rw [hf, z]⟩)
    have nF : a ∉ X.fs := fun hm => by
      obtain ⟨e, he, q⟩ := List.mem_filterMap.mp hm
      exact nfr (List.mem_filterMap.mpr ⟨e, List.mem_cons_of_mem _ he, q⟩)
    have nB : B.get? a = none := fl3.2.1
    have n0 : ∀ o, X.s_0.heap.get? a = some o → X.H_0 a = none → a ∉ X.ex → False := fun o e n hx => by
      obtain ⟨o1, e1⟩ := J.base.there a o e hx
      have := nb a o1 e1 (by rw [hs]; exact nfr)
      rw [nB] at this
      cases this
    have hpa : ∀ p ∈ X.pn ++ pins, p.1 ≠ a := fun p hp z => by
      obtain ⟨e1, _⟩ := J.pin p hp
      rw [z] at e1
      have := nb a _ e1 (by rw [hs]; exact nfr)
      rw [nB] at this
      cases this
    have S3 := J3.suite he3 hd3 na nL nF
    refine wpAny_handleBy_cons (codeAny_handlers_test ?_) (by intro q; cases q)
    have LT : PySem.W.Looks (model X.prog X.w) h3 (typeOf (.ref a)) cls := fun A Q E s k q => wpAny_typeOf_ref (k _ _ he3) (by rw [hz3.1]; exact q)
    have LM := PySem.W.exm_one (M := model X.prog X.w) (J3.kIn) LT hb1
    have test : ∀ {Q : Value → Shared → Prop} {E : Value → Shared → Prop}, Q c { s' with heap := h3 } → wpAny (model X.prog X.w) (X.A.mark (some (.ref a))) (eval (.Name x np) X.env) Q E { s' with heap := h3 } := fun {Q E} q => by
      obtain ⟨hg, hdbg, hm | ⟨hm, hv, hnn⟩⟩ := hc
      · exact ld_glob (X := X.suite a ((a, oe3) :: (X.pn ++ pins))) S3 hg hm q hdbg
      · exact ld_blt (X := X.suite a ((a, oe3) :: (X.pn ++ pins))) S3 hg hm hv q hnn hdbg
    refine test (LM.here ?_)
    cases b with
    | true =>
      refine codeAny_handlers_suite_as (HandSPX.lands_againZ fl3 fun h4 fl4 up4 => ?_)
      have J4 : L2.Inv X pins σ1 H1 { s' with heap := h4 } := J.landed nb fl4.1 ((up.trans up3).trans up4) os ag
      obtain ⟨oe4, vs4, he4, hz4, hd4⟩ := fl4.there
      refine store_ok (X := X.suite a ((a, oe4) :: (X.pn ++ pins))) (v := .ref a) (J4.suite he4 hd4 na nL nF) hN hi (.inl hln) rfl (fun s5 S5 => ?_) (.inr hln)
      refine wpAny_mono ((hsu a oe4 cls d (X.pn ++ pins) hz4 ⟨_, hd4⟩).run [] s5 _ H1 _ S5 (hyes rfl a na)) (fun f s6 hsp => ?_) (fun _ _ z => False.elim z)
      have end_ : ∀ {σ6 : L2.St} {H6 : Hp} {Q : Shared → Prop}, L2.Inv (X.suite a ((a, oe4) :: (X.pn ++ pins))) [] σ6 H6 s6 → (∀ s7, L2.Inv X pins (σ6.set i none) H6 s7 → Q s7) →
          wpAny (model X.prog X.w) X.A (do bindName X.env n .none; unbindBehindTheSuite X.env n pos') (fun _ s7 => Q s7) X.xe s6 := fun {σ6 H6 Q} S6 hq => gone_ok (S6.unsuite ok) hN hi hln hq
      cases f with
      | next =>
        obtain ⟨σ6, H6, S6, q6⟩ := hsp
        have S7 := inv_pinned S6 ok
        have n6 := (S7.pin (a, oe4) (List.mem_append_right _ List.mem_cons_self)).2.1
        exact gone_ok S7 hN hi hln fun s7 J7 => ⟨_, _, inv_keep J7 n0 hpa hz4 hd4, q6 n6⟩
      | brk =>
        obtain ⟨σ6, H6, S6, q6⟩ := hsp
        exact end_ S6 fun s7 J7 => ⟨_, _, J7, q6⟩
      | cont =>
        obtain ⟨σ6, H6, S6, q6⟩ := hsp
        exact end_ S6 fun s7 J7 => ⟨_, _, J7, q6⟩
      | ret u =>
        obtain ⟨v6, σ6, H6, S6, r6, q6⟩ := hsp
        exact end_ S6 fun s7 J7 => ⟨_, _, _, J7, r6, q6⟩
    | false =>
      show wpAny _ X.A (handleBy (.ref a) X.env []) _ _ _
      refine wpAny_handleBy_nil ?_
      obtain ⟨k1, k2, k3, oe, vs, T, oT, ts', he, hz, hd, h1, hr⟩ := id fl3
      unfold PySem.passOn
      refine wpAny_bind (wpAny_field he hd h1 ?_)
      rw [if_neg (show ¬ ((Value.ref T == Value.none) = true) from by simp)]
      have fin : wpAny (model X.prog X.w) X.A (setFlight (.ref a) X.env.frame) (fun _ s4 => wpAny (model X.prog X.w) X.A (throw (.ref a) : Sem Flow) (SP X pins D) X.xe s4) X.xe { s' with heap := h3 } := by
        rw [hf]
        exact HandSPX.setFlight_upZ fl3 fun h4 hh4 up4 => wpAny_throw (tk _ _ ⟨a, B, sI, pins, σ1, H1, cls, d, rfl, J, nb, (up.trans up3).trans up4, .inr (.inr (by rw [hs]; exact hh4)), na, os, ag, hno rfl⟩)
      first
        | exact wpAny_bind (wpAny_pure (wpAny_bind fin))
        | exact wpAny_bind fin
  · cases f with
    | next =>
      obtain ⟨σ1, H1, J1, q⟩ := hsp
      exact wpAny_execs_nil ⟨σ1, H1, J1.ofTry ok, q⟩
    | brk =>
      obtain ⟨σ1, H1, J1, q⟩ := hsp
      exact ⟨σ1, H1, J1.ofTry ok, q⟩
    | cont =>
      obtain ⟨σ1, H1, J1, q⟩ := hsp
      exact ⟨σ1, H1, J1.ofTry ok, q⟩
    | ret u =>
      obtain ⟨v, σ1, H1, J1, r, q⟩ := hsp
      exact ⟨v, σ1, H1, J1.ofTry ok, r, q⟩
end

/-! ## isinstance of errors -/
/-- .. of the one that the suite holds -/
def rIsS (K : PySem.W.Frag) (cls : Value) (d : Option Addr) (a : Addr) : List V → Hp → VK → Prop := fun xs H Q => d = none ∧ ∃ D, cls = .ref D ∧ ExcC K D ∧ rIsE K D a xs H Q
theorem call_isS {X : Cx} {a : Addr} {cls : Value} {d : Option Addr} {oe : Obj} {pn : List (Addr × Obj)} (hz : Zc cls d oe) (hf : ∃ vs, oe.data = .fields vs) : CallR (X.suite a ((a, oe) :: pn)) (.builtin "isinstance") (rIsS X.K cls d a) := by
  intro pins s σ H xs us Q I r h
  obtain ⟨rfl, D, rfl, hC, h⟩ := h
  exact call_isE hC hz hf pins s σ H xs us Q I r h
theorem inst_kept {X : Cx} {pins : List (Addr × Obj)} {σ : L2.St} {H : Hp} {s : Shared} {a D : Addr} (I : L2.Inv X pins σ H s) (h : H a = some (ExB (.ref D) none a)) : ∃ oe, PySem.W.InstAt s.heap a oe D none := by
  obtain ⟨⟨oe, vs, ho, hz, hd⟩, _, _⟩ := I.hok a _ h
  obtain ⟨oc, od, oda, osl⟩ := oe
  obtain ⟨h1, h2⟩ := hz
  dsimp only at h1 h2 hd
  subst h1 h2 hd
  exact ⟨_, ho, rfl, rfl, trivial⟩
/-- .. of a kept one -/
def rIsB (K : PySem.W.Frag) : List V → Hp → VK → Prop := fun xs H Q => ∃ (a D : Addr) (c : V) (cv : Value) (b : Bool), xs = [.ref a, c] ∧ H a = some (ExB (.ref D) none a) ∧ ExcC K D ∧ (∀ u, RelV c u → u = cv) ∧ PySem.W.kitOne K (.ref D) cv = some b ∧ Q (.bl b) H
theorem call_isB {X : Cx} : CallR X (.builtin "isinstance") (rIsB X.K) := by
  intro pins s σ H xs us Q I r h
  obtain ⟨a, D, c, cv, b, rfl, ha, C, hcv, e, q⟩ := h
  obtain ⟨oe, J⟩ := inst_kept I ha
  cases r with
  | cons rx rr =>
    cases rr with
    | cons rt rr =>
      cases rr
      cases rx
      have ec := hcv _ rt
      subst ec
      exact PySem.W.kia_one (PySem.W.handS_kitx_exc C.hg C.hk C.hs C.hd C.ha C.hn C.ht C.hm) I.kIn J e (fun z => nomatch z) fun tk => ⟨.bl b, H, I.kept (t' := tk) fun _ _ z => z, rfl, q⟩
/-- .. among several classes -/
def rIsBT (K : PySem.W.Frag) : List V → Hp → VK → Prop := fun xs H Q => ∃ (a D t : Addr) (cs : List Addr) (b : Bool), xs = [.ref a, .ref t] ∧ H a = some (ExB (.ref D) none a) ∧ H t = some (.tup (cs.map V.ref)) ∧ ExcC K D ∧ PySem.W.kitAny K (.ref D) (cs.map Value.ref) = some b ∧ Q (.bl b) H
theorem vals_refs : ∀ {cs : List Addr} {us : List Value}, Vals (cs.map V.ref) us → us = cs.map Value.ref
  | [], _, .nil => rfl
  | c :: cs, _, .cons r t => by
    have e := vals_refs t
    cases (show _ = Value.ref c from r)
    rw [e, List.map_cons]
theorem call_isBT {X : Cx} : CallR X (.builtin "isinstance") (rIsBT X.K) := by
  intro pins s σ H xs us Q I r h
  obtain ⟨a, D, t, cs, b, rfl, ha, ht, C, e, q⟩ := h
  obtain ⟨oe, J⟩ := inst_kept I ha
  obtain ⟨_, its, rv, ⟨o, ho, hc, n, hd⟩⟩ := I.hok t _ ht
  have ev := vals_refs rv
  subst ev
  obtain ⟨oc, od, oda, osl⟩ := o
  dsimp only at hc hd
  subst hc hd
  cases r with
  | cons rx rr =>
    cases rr with
    | cons rt rr =>
      cases rr
      cases rx
      cases rt
      exact PySem.W.kia_tup (PySem.W.handS_kitx_exc C.hg C.hk C.hs C.hd C.ha C.hn C.ht C.hm) I.kIn J ho e (fun z => nomatch z) fun tk => ⟨.bl b, H, I.kept (t' := tk) fun _ _ z => z, rfl, q⟩

/-! ## what the top says of the errors' classes -/
structure ExT (K : PySem.W.Frag) (mg : Str → Option Value) (x : Str) : Type where
  C : Addr
  g : mg x = some (.ref C)
  k : PySem.W.keepIn K (.ref C) = true
  hd : PySem.W.hasDictIn K C = true
  ty : PySem.W.typeIn K (.ref C) = some (.type "type")
  sb : PySem.W.subIn K (.ref C) (.type "BaseException") = some true
  sl : PySem.W.subIn K (.ref C) (.ref C) = some true
structure RzT (K : PySem.W.Frag) (C : Addr) : Prop where
  q : PySem.W.excIn K C [.type "ValueError", .type "Exception", .type "BaseException", .type "object"] "ValueError.__new__" = true
  E : ExcC K C
  ty : PySem.W.typeIn K (.ref C) = some (.type "type")
  sv : PySem.W.subIn K (.ref C) (.type "ValueError") = some true
theorem RzT.rz {K : PySem.W.Frag} {C : Addr} (h : RzT K C) {X : Cx} (hK : X.K = K := by rfl) : Raises X (.ref C) := by
  subst hK
  exact raises_own h.E.hs h.ty
theorem pe_cls {X : Cx} {x : Str} {pos : Pos} {C : Addr} (h : X.mg x = some (.ref C)) (hg : Gl X x := by rfl) (hd : (x == ("__debug__" : Str)) = false := by decide) : PE X (.Name x pos) (tC (.ref C)) := pe_glob hg h rfl hd
theorem kit_self {K : PySem.W.Frag} {C : Addr} : PySem.W.kitOne K (.ref C) (.ref C) = some true := if_pos (beq_self_eq_true _)
theorem kit_ref {K : PySem.W.Frag} {mg : Str → Option Value} {x : Str} {D : Addr} {b : Bool} (t : ExT K mg x) (hD : PySem.W.subIn K (.ref D) (.ref D) = some true) (h : PySem.W.subIn K (.ref D) (.ref t.C) = some b) : PySem.W.kitOne K (.ref D) (.ref t.C) = some b := by
  unfold PySem.W.kitOne
  by_cases e : (Value.ref D == Value.ref t.C) = true
  · rw [if_pos e]
    cases eq_of_beq e
    rw [hD] at h
    exact h
  · rw [if_neg e]
    obtain ⟨cd, hc, _⟩ := PySem.W.any_some t.hd
    show (if ((PySem.W.clsIn K t.C).isSome && PySem.W.typeIn K (.ref t.C) == some (.type "type")) = true then PySem.W.subIn K (.ref D) (.ref t.C) else none) = some b
    rw [hc, t.ty]
    exact h
theorem kit_val {K : PySem.W.Frag} {D : Addr} {n : String} {b : Bool} (hm : PySem.W.kitMeta n = true) (h : PySem.W.subIn K (.ref D) (.type n) = some b) : PySem.W.kitOne K (.ref D) (.type n) = some b := by
  unfold PySem.W.kitOne
  rw [if_neg (fun z => by cases eq_of_beq z)]
  show (if PySem.W.kitMeta n = true then PySem.W.subIn K (.ref D) (.type n) else none) = some b
  rw [if_pos hm]
  exact h
theorem exm_of {K : PySem.W.Frag} {mg : Str → Option Value} {x : Str} {D : Addr} {b : Bool} (t : ExT K mg x) (h : PySem.W.subIn K (.ref D) (.ref t.C) = some b) : PySem.W.exmOne K (.ref D) (.ref t.C) = some b := PySem.W.exm_ref t.sb t.hd t.ty h
theorem kit_cons {K : PySem.W.Frag} {t c : Value} {cs : List Value} {b : Bool} (h : PySem.W.kitOne K t c = some false) (hr : PySem.W.kitAny K t cs = some b) : PySem.W.kitAny K t (c :: cs) = some b := by
  unfold PySem.W.kitAny
  rw [h]
  exact hr
theorem kit_nil {K : PySem.W.Frag} {t : Value} : PySem.W.kitAny K t [] = some false := rfl

/-! ## f(e, .., k = v, ..) in a try -/
section
variable {X : Cx} {CX : CXT} {k n : Nat} {f : Addr} {fd : FuncData} {ps ks : List Str} {sp : Sp} {E : L2.St → XK} {x : Str} {p pos : Pos} {e : PySem.Expr} {es : List PySem.Expr} {kws : List Keyword} {ta tk : TA} {g : List Value → List Value → List Value} {gV : List V → List V → List V}
def tCallNS (n m : Nat) (sp : Sp) (gV : List V → List V → List V) (E : L2.St → XK) (ta tk : TA) : TE := fun σ H Q => ta σ H fun vs H1 => tk σ H1 fun zs H2 => vs.length = n ∧ zs.length = m ∧ sp (gV vs zs) H2 Q (E σ)
theorem pe_callNS (F : FnOk X.prog X.w X.K X.mg X.base CX k f fd ps sp) (hr : Room k X.A) (hg : Gl X x) (hm : X.mg x = some (.ref f)) (hk : PySem.W.keepIn X.K (.ref f) = true) (hb : KBn X.K fd ps n ks g gV) (hx : ∀ σ, PassesAt CX X σ (E σ))
    (ha : PA X (e :: es) ta) (hkw : PK X kws tk) (hall : (backToKw pos (keywordEach kws X.env)).all (·.1.isSome) = true := by rfl) (hks : (backToKw pos (keywordEach kws X.env)).filterMap (·.1) = ks := by rfl)
    (hdb : (x == ("__debug__" : Str)) = false := by decide) (he : starEach (e :: es) X.env = (false, eval e X.env) :: starEach es X.env := by rfl)
    (hpl : ((backTo pos (starEach (e :: es) X.env)).any (·.1) || (backToKw pos (keywordEach kws X.env)).any (·.1.isNone)) = false := by rfl) :
    PE X (.Call (.Name x p) (e :: es) kws pos) (tCallNS n ks.length sp gV E ta tk) := by
  constructor
  intro pins s σ H Q I h
  refine wpAny_Call_Name_kw (ld_glob I hg hm ?_ hdb)
  refine PySem.W.callWith_KW (h₀ := X.base) I.ok.mod.kin hk hall (thn (ha.run pos pins s σ H _ I h) fun us s1 hh1 => ?_) hpl he
  obtain ⟨vs, H1, I1, r, q⟩ := hh1
  refine thn (hkw.run pos pins s1 σ H1 _ I1 q) fun ws s2 hh2 => ?_
  obtain ⟨zs, H2, I2, rz, l1, l2, q2⟩ := hh2
  refine ⟨I2.kIn, ?_⟩
  rw [hks]
  refine wpAny_call (codeAny_mono (F.run X.A X.stack s2 H2 ⟨us, ks.zip ws⟩ (g us ws) (gV vs zs) Q (E σ) hr I2.env0 (hb.to s2 us ws I2.kIn (r.length.symm.trans l1) (rz.length.symm.trans l2)) (hb.rel r rz) q2) (fun r s' hq => ?_))
  match r, hq with
  | .error e, hq => exact hx σ pins H2 s2 e s' I2 hq
  | .ok (.ret u), hq => exact I2.after hq
end
/-! ## promises put together -/
section
variable {P : Program} {w : World} {K : PySem.W.Frag} {mg : Str → Option Value} {base : Heap} {C : CXT} {k : Nat} {f : Addr} {fd : FuncData} {ps : List Str} {sp sp' : Sp}
theorem FnOk.or (F : FnOk P w K mg base C k f fd ps sp) (G : FnOk P w K mg base C k f fd ps sp') : FnOk P w K mg base C k f fd ps (fun vs H Q E => sp vs H Q E ∨ sp' vs H Q E) :=
  ⟨fun vs H Q E h => h.elim (F.len vs H Q E) (G.len vs H Q E), fun A outer s H args us vs Q E r e b v h => h.elim (F.run A outer s H args us vs Q E r e b v) (G.run A outer s H args us vs Q E r e b v)⟩
/-- what raises nothing keeps its promise where errors are let out -/
theorem FnOk.x (F : FnOk P w K mg base CX0 k f fd ps sp) : FnOk P w K mg base (L2.CX P w) k f fd ps sp :=
  ⟨F.len, fun A outer s H args us vs Q E r e b v h => codeAny_mono (F.run A outer s H args us vs Q E r e b v h) fun rs s' hq => by
    match rs, hq with
    | .error e, hq => exact hq.elim
    | .ok (.ret u), hq => exact hq⟩
end
/-! ## xs.count(x) of flat things -/
def rCntF (K : PySem.W.Frag) : V → List V → Hp → VK → Prop := fun x xs H Q => ∃ (a : Addr) (ys : List V) (y : V), x = V.ref a ∧ xs = [y] ∧ SqL K H a ys ∧ flatV y = true ∧ ys.all flatV = true ∧ Q (.int ((ys.countP fun z => eqV z y : Nat) : Int)) H
theorem countP_vals {y : V} : ∀ {ys : List V} {its : List Value}, Vals ys its → ys.all flatV = true → its.countP (eqU y) = ys.countP fun z => eqV z y
  | [], _, .nil, _ => rfl
  | z :: ys, u :: us, .cons r t, f => by
    rw [List.all_cons, Bool.and_eq_true] at f
    rw [List.countP_cons, List.countP_cons, countP_vals t f.2, eqU_of r f.1]
theorem mt_countF {X : Cx} : MtR X "list.count" (rCntF X.K) := by
  intro pins s σ H x xs v us Q I rx rxs h
  obtain ⟨a, ys, y, rfl, rfl, hs, fy, fys, q⟩ := h
  cases rx
  cases rxs with
  | cons ry rt =>
    rename_i uy ut
    cases rt
    obtain ⟨its, rv, ⟨⟨cls, dd, data, sl⟩, n, ho, hc, hdn, hd⟩, hlen⟩ := I.list hs
    simp only at hc hd
    subst hc hd
    refine call_meets PySem.F.slot_list_count ⟨_, ho, rfl⟩ PySem.F.entry_list_count (PySem.F.args_list_count_2 _ _) (SeqAt.list_countAt a its.toArray n dd sl uy (eqU y)) ⟨ho, fun u' hu' => mem_eqAt ry fy rv fys u' (by simpa using hu'), ?_⟩
    refine ⟨.int _, H, I.tok _, ⟨s.toks, ?_⟩, q⟩
    show Value.int ((its.toArray.toList.countP (eqU y) : Nat) : Int) s.toks = _
    rw [List.toList_toArray, countP_vals rv fys]
end BK

namespace BK
open PySem PySem.Spec PyProof.Rows L2
def topS (i : Nat) : Stmt := PySem.Challenge.pw_blindkeys_k11_hands_refused.main.body.getD i (.Pass ⟨0, 0, 0, 0⟩)
abbrev s_is_row : Stmt := topS 23
abbrev N_is_row : List Str := ["thing"]
theorem sc_is_row : FnScope N_is_row ["thing"] (defScope s_is_row) := ⟨rfl, rfl, rfl, by decide +kernel, rfl, by decide +kernel, by decide +kernel⟩
abbrev s_is_whole : Stmt := topS 24
abbrev N_is_whole : List Str := ["thing", "low"]
theorem sc_is_whole : FnScope N_is_whole ["thing", "low"] (defScope s_is_whole) := ⟨rfl, rfl, rfl, by decide +kernel, rfl, by decide +kernel, by decide +kernel⟩
abbrev s_is_within : Stmt := topS 25
abbrev N_is_within : List Str := ["thing", "low", "high"]
theorem sc_is_within : FnScope N_is_within ["thing", "low", "high"] (defScope s_is_within) := ⟨rfl, rfl, rfl, by decide +kernel, rfl, by decide +kernel, by decide +kernel⟩
abbrev s_is_plain : Stmt := topS 26
abbrev N_is_plain : List Str := ["thing"]
theorem sc_is_plain : FnScope N_is_plain ["thing"] (defScope s_is_plain) := ⟨rfl, rfl, rfl, by decide +kernel, rfl, by decide +kernel, by decide +kernel⟩
abbrev s_is_clip : Stmt := topS 27
abbrev N_is_clip : List Str := ["thing"]
theorem sc_is_clip : FnScope N_is_clip ["thing"] (defScope s_is_clip) := ⟨rfl, rfl, rfl, by decide +kernel, rfl, by decide +kernel, by decide +kernel⟩
abbrev s_is_word : Stmt := topS 28
abbrev N_is_word : List Str := ["thing"]
theorem sc_is_word : FnScope N_is_word ["thing"] (defScope s_is_word) := ⟨rfl, rfl, rfl, by decide +kernel, rfl, by decide +kernel, by decide +kernel⟩
abbrev s_is_key : Stmt := topS 34
abbrev N_is_key : List Str := ["thing"]
theorem sc_is_key : FnScope N_is_key ["thing"] (defScope s_is_key) := ⟨rfl, rfl, rfl, by decide +kernel, rfl, by decide +kernel, by decide +kernel⟩
abbrev s_key_weight : Stmt := topS 35
abbrev N_key_weight : List Str := ["key"]
theorem sc_key_weight : FnScope N_key_weight ["key"] (defScope s_key_weight) := ⟨rfl, rfl, rfl, by decide +kernel, rfl, by decide +kernel, by decide +kernel⟩
abbrev s_weigh : Stmt := topS 36
abbrev N_weigh : List Str := ["keys", "key"]
theorem sc_weigh : FnScope N_weigh ["keys"] (defScope s_weigh) := ⟨rfl, rfl, rfl, by decide +kernel, rfl, by decide +kernel, by decide +kernel⟩
abbrev s_is_hand : Stmt := topS 37
abbrev N_is_hand : List Str := ["thing", "key"]
theorem sc_is_hand : FnScope N_is_hand ["thing"] (defScope s_is_hand) := ⟨rfl, rfl, rfl, by decide +kernel, rfl, by decide +kernel, by decide +kernel⟩
abbrev s_check_hand : Stmt := topS 38
abbrev N_check_hand : List Str := ["thing"]
theorem sc_check_hand : FnScope N_check_hand ["thing"] (defScope s_check_hand) := ⟨rfl, rfl, rfl, by decide +kernel, rfl, by decide +kernel, by decide +kernel⟩
abbrev s_is_sheet : Stmt := topS 39
abbrev N_is_sheet : List Str := ["thing"]
theorem sc_is_sheet : FnScope N_is_sheet ["thing"] (defScope s_is_sheet) := ⟨rfl, rfl, rfl, by decide +kernel, rfl, by decide +kernel, by decide +kernel⟩
abbrev s_check_sheet : Stmt := topS 40
abbrev N_check_sheet : List Str := ["thing"]
theorem sc_check_sheet : FnScope N_check_sheet ["thing"] (defScope s_check_sheet) := ⟨rfl, rfl, rfl, by decide +kernel, rfl, by decide +kernel, by decide +kernel⟩
abbrev s_nearest : Stmt := topS 41
abbrev N_nearest : List Str := ["side", "many", "near"]
theorem sc_nearest : FnScope N_nearest ["side", "many"] (defScope s_nearest) := ⟨rfl, rfl, rfl, by decide +kernel, rfl, by decide +kernel, by decide +kernel⟩
abbrev s_take : Stmt := topS 42
abbrev N_take : List Str := ["side", "many", "near"]
theorem sc_take : FnScope N_take ["side", "many"] (defScope s_take) := ⟨rfl, rfl, rfl, by decide +kernel, rfl, by decide +kernel, by decide +kernel⟩
abbrev s_do_key : Stmt := topS 43
abbrev N_do_key : List Str := ["key", "left", "right", "held", "kind"]
theorem sc_do_key : FnScope N_do_key ["key", "left", "right", "held"] (defScope s_do_key) := ⟨rfl, rfl, rfl, by decide +kernel, rfl, by decide +kernel, by decide +kernel⟩
abbrev s_weight : Stmt := topS 44
abbrev N_weight : List Str := ["hand"]
theorem sc_weight : FnScope N_weight ["hand"] (defScope s_weight) := ⟨rfl, rfl, rfl, by decide +kernel, rfl, by decide +kernel, by decide +kernel⟩
abbrev s_press : Stmt := topS 45
abbrev N_press : List Str := ["sheet", "hand", "times", "words", "cursor", "clip", "left", "right", "held", "_", "key"]
theorem sc_press : FnScope N_press ["sheet", "hand", "times"] (defScope s_press) := ⟨rfl, rfl, rfl, by decide +kernel, rfl, by decide +kernel, by decide +kernel⟩
abbrev s_go : Stmt := topS 46
abbrev N_go : List Str := ["key", "lengths", "left", "right", "held", "kind", "many"]
theorem sc_go : FnScope N_go ["key", "lengths"] (defScope s_go) := ⟨rfl, rfl, rfl, by decide +kernel, rfl, by decide +kernel, by decide +kernel⟩
abbrev s_needed : Stmt := topS 47
abbrev N_needed : List Str := ["hand", "side", "lengths", "least", "key"]
theorem sc_needed : FnScope N_needed ["hand", "side", "lengths"] (defScope s_needed) := ⟨rfl, rfl, rfl, by decide +kernel, rfl, by decide +kernel, by decide +kernel⟩
abbrev s_reach : Stmt := topS 48
abbrev N_reach : List Str := ["hand", "side"]
theorem sc_reach : FnScope N_reach ["hand", "side"] (defScope s_reach) := ⟨rfl, rfl, rfl, by decide +kernel, rfl, by decide +kernel, by decide +kernel⟩
abbrev s_reaches : Stmt := topS 49
abbrev N_reaches : List Str := ["hand"]
theorem sc_reaches : FnScope N_reaches ["hand"] (defScope s_reaches) := ⟨rfl, rfl, rfl, by decide +kernel, rfl, by decide +kernel, by decide +kernel⟩
abbrev s__law_spring : Stmt := topS 51
abbrev N__law_spring : List Str := ["script", "figures", "stir", "cell"]
theorem sc__law_spring : FnScope N__law_spring ["script"] (defScope s__law_spring) := ⟨rfl, rfl, rfl, by decide +kernel, rfl, by decide +kernel, by decide +kernel⟩
abbrev s__law_draw : Stmt := topS 52
abbrev N__law_draw : List Str := ["spring", "many", "found", "stir"]
theorem sc__law_draw : FnScope N__law_draw ["spring", "many"] (defScope s__law_draw) := ⟨rfl, rfl, rfl, by decide +kernel, rfl, by decide +kernel, by decide +kernel⟩
abbrev s__law_word : Stmt := topS 53
abbrev N__law_word : List Str := ["spring", "most", "kinds", "k"]
theorem sc__law_word : FnScope N__law_word ["spring", "most"] (defScope s__law_word) := ⟨rfl, rfl, rfl, by decide +kernel, rfl, by decide +kernel, by decide +kernel⟩
abbrev s__law_hand : Stmt := topS 54
abbrev N__law_hand : List Str := ["spring", "most", "wide", "found", "room", "k", "size", "name"]
theorem sc__law_hand : FnScope N__law_hand ["spring", "most", "wide"] (defScope s__law_hand) := ⟨rfl, rfl, rfl, by decide +kernel, rfl, by decide +kernel, by decide +kernel⟩
abbrev s__law_sheet : Stmt := topS 55
abbrev N__law_sheet : List Str := ["spring", "most", "words", "cursor", "clip"]
theorem sc__law_sheet : FnScope N__law_sheet ["spring", "most"] (defScope s__law_sheet) := ⟨rfl, rfl, rfl, by decide +kernel, rfl, by decide +kernel, by decide +kernel⟩
abbrev s__law_no_hand : Stmt := topS 56
abbrev N__law_no_hand : List Str := ["spring", "hand", "at", "some", "wrong"]
theorem sc__law_no_hand : FnScope N__law_no_hand ["spring", "hand"] (defScope s__law_no_hand) := ⟨rfl, rfl, rfl, by decide +kernel, rfl, by decide +kernel, by decide +kernel⟩
abbrev s__law_which : Stmt := topS 57
abbrev N__law_which : List Str := ["caught", "some", "others", "words"]
theorem sc__law_which : FnScope N__law_which ["caught"] (defScope s__law_which) := ⟨rfl, rfl, rfl, by decide +kernel, rfl, by decide +kernel, by decide +kernel⟩
abbrev s__law_asked : Stmt := topS 58
abbrev N__law_asked : List Str := ["ask", "sheet", "hand", "often_so", "caught", "e"]
theorem sc__law_asked : FnScope N__law_asked ["ask", "sheet", "hand", "often_so"] (defScope s__law_asked) := ⟨rfl, rfl, rfl, by decide +kernel, rfl, by decide +kernel, by decide +kernel⟩
abbrev s_law : Stmt := topS 59
abbrev N_law : List Str := ["script", "spring", "turn", "sheet", "hand", "bad", "no_sheet", "often_so", "rows", "ask", "stays", "thing", "row", "often", "due"]
theorem sc_law : FnScope N_law ["script"] (defScope s_law) := ⟨rfl, rfl, rfl, by decide +kernel, rfl, by decide +kernel, by decide +kernel⟩
structure FnT (K : PySem.W.Frag) (mg : Str → Option Value) (x : Str) (st : Stmt) (ps : List Str) : Type where
  f : Addr
  fd : FuncData
  F : Fun K x x st f fd
  g : mg x = some (.ref f)
  b : Binds K fd ps []
structure FnTK (K : PySem.W.Frag) (mg : Str → Option Value) (x : Str) (st : Stmt) (ps : List Str) (n : Nat) (ks : List Str) (dv : List V) : Type where
  f : Addr
  fd : FuncData
  F : Fun K x x st f fd
  g : mg x = some (.ref f)
  ds : List Value
  vd : Vals dv ds
  bd : Binds K fd ps ds
  kb : KBn K fd ps n ks (fun us ws => us ++ ws) (fun vs zs => vs ++ zs)
structure Txt (K : PySem.W.Frag) (mg : Str → Option Value) (w : World) : Type where
  f_is_row : FnT K mg "is_row" s_is_row ["thing"]
  f_is_whole : FnT K mg "is_whole" s_is_whole ["thing", "low"]
  f_is_within : FnT K mg "is_within" s_is_within ["thing", "low", "high"]
  f_is_plain : FnT K mg "is_plain" s_is_plain ["thing"]
  f_is_clip : FnT K mg "is_clip" s_is_clip ["thing"]
  f_is_word : FnT K mg "is_word" s_is_word ["thing"]
  f_is_key : FnT K mg "is_key" s_is_key ["thing"]
  f_key_weight : FnT K mg "key_weight" s_key_weight ["key"]
  f_weigh : FnT K mg "weigh" s_weigh ["keys"]
  f_is_hand : FnT K mg "is_hand" s_is_hand ["thing"]
  f_check_hand : FnT K mg "check_hand" s_check_hand ["thing"]
  f_is_sheet : FnT K mg "is_sheet" s_is_sheet ["thing"]
  f_check_sheet : FnT K mg "check_sheet" s_check_sheet ["thing"]
  f_nearest : FnT K mg "nearest" s_nearest ["side", "many"]
  f_take : FnT K mg "take" s_take ["side", "many"]
  f_do_key : FnT K mg "do_key" s_do_key ["key", "left", "right", "held"]
  f_weight : FnT K mg "weight" s_weight ["hand"]
  f_press : FnTK K mg "press" s_press ["sheet", "hand", "times"] 2 ["times"] [.int 1]
  f_go : FnT K mg "go" s_go ["key", "lengths"]
  f_needed : FnT K mg "needed" s_needed ["hand", "side", "lengths"]
  f_reach : FnT K mg "reach" s_reach ["hand", "side"]
  f_reaches : FnT K mg "reaches" s_reaches ["hand"]
  f__law_spring : FnT K mg "_law_spring" s__law_spring ["script"]
  f__law_draw : FnT K mg "_law_draw" s__law_draw ["spring", "many"]
  f__law_word : FnT K mg "_law_word" s__law_word ["spring", "most"]
  f__law_hand : FnT K mg "_law_hand" s__law_hand ["spring", "most", "wide"]
  f__law_sheet : FnT K mg "_law_sheet" s__law_sheet ["spring", "most"]
  f__law_no_hand : FnT K mg "_law_no_hand" s__law_no_hand ["spring", "hand"]
  f__law_which : FnT K mg "_law_which" s__law_which ["caught"]
  f__law_asked : FnT K mg "_law_asked" s__law_asked ["ask", "sheet", "hand", "often_so"]
  f_law : FnT K mg "law" s_law ["script"]
  b_ValueError : mg "ValueError" = none
  b_abs : mg "abs" = none
  b_all : mg "all" = none
  b_int : mg "int" = none
  b_isinstance : mg "isinstance" = none
  b_len : mg "len" = none
  b_list : mg "list" = none
  b_min : mg "min" = none
  b_range : mg "range" = none
  b_repr : mg "repr" = none
  b_str : mg "str" = none
  b_sum : mg "sum" = none
  b_tuple : mg "tuple" = none
  b_type : mg "type" = none
  x_NoHand : ExT K mg "NoHand"
  x_NoSheet : ExT K mg "NoSheet"
  x_NoTimes : ExT K mg "NoTimes"
  x_NoText : ExT K mg "NoText"
  x_NoPlace : ExT K mg "NoPlace"
  x_NoNumber : ExT K mg "NoNumber"
  x_NoRings : ExT K mg "NoRings"
  x_Full : ExT K mg "Full"
  x_NoLengths : ExT K mg "NoLengths"
  x_NoName : ExT K mg "NoName"
  x_NoRow : ExT K mg "NoRow"
  x_NoSeen : ExT K mg "NoSeen"
  x_Nothing : ExT K mg "Nothing"
  x_NoWriting : ExT K mg "NoWriting"
  x_TooMany : ExT K mg "TooMany"
  x_KeysError : ExT K mg "KeysError"
  x_NoLetter : ExT K mg "NoLetter"
  x_NoStand : ExT K mg "NoStand"
  x_NoPlay : ExT K mg "NoPlay"
  r_NoHand : RzT K x_NoHand.C
  r_NoSheet : RzT K x_NoSheet.C
  r_NoTimes : RzT K x_NoTimes.C
  s_NoHand_NoSheet : PySem.W.subIn K (.ref x_NoHand.C) (.ref x_NoSheet.C) = some false
  s_NoHand_NoTimes : PySem.W.subIn K (.ref x_NoHand.C) (.ref x_NoTimes.C) = some false
  s_NoHand_NoText : PySem.W.subIn K (.ref x_NoHand.C) (.ref x_NoText.C) = some false
  s_NoHand_NoPlace : PySem.W.subIn K (.ref x_NoHand.C) (.ref x_NoPlace.C) = some false
  s_NoHand_NoNumber : PySem.W.subIn K (.ref x_NoHand.C) (.ref x_NoNumber.C) = some false
  s_NoHand_NoRings : PySem.W.subIn K (.ref x_NoHand.C) (.ref x_NoRings.C) = some false
  s_NoHand_Full : PySem.W.subIn K (.ref x_NoHand.C) (.ref x_Full.C) = some false
  s_NoHand_NoLengths : PySem.W.subIn K (.ref x_NoHand.C) (.ref x_NoLengths.C) = some false
  s_NoHand_NoName : PySem.W.subIn K (.ref x_NoHand.C) (.ref x_NoName.C) = some false
  s_NoHand_NoRow : PySem.W.subIn K (.ref x_NoHand.C) (.ref x_NoRow.C) = some false
  s_NoHand_NoSeen : PySem.W.subIn K (.ref x_NoHand.C) (.ref x_NoSeen.C) = some false
  s_NoHand_Nothing : PySem.W.subIn K (.ref x_NoHand.C) (.ref x_Nothing.C) = some false
  s_NoHand_NoWriting : PySem.W.subIn K (.ref x_NoHand.C) (.ref x_NoWriting.C) = some false
  s_NoHand_TooMany : PySem.W.subIn K (.ref x_NoHand.C) (.ref x_TooMany.C) = some false
  s_NoHand_KeysError : PySem.W.subIn K (.ref x_NoHand.C) (.ref x_KeysError.C) = some true
  s_NoHand_NoLetter : PySem.W.subIn K (.ref x_NoHand.C) (.ref x_NoLetter.C) = some false
  s_NoHand_NoStand : PySem.W.subIn K (.ref x_NoHand.C) (.ref x_NoStand.C) = some false
  s_NoHand_NoPlay : PySem.W.subIn K (.ref x_NoHand.C) (.ref x_NoPlay.C) = some false
  s_NoSheet_NoHand : PySem.W.subIn K (.ref x_NoSheet.C) (.ref x_NoHand.C) = some false
  s_NoSheet_NoTimes : PySem.W.subIn K (.ref x_NoSheet.C) (.ref x_NoTimes.C) = some false
  s_NoSheet_NoText : PySem.W.subIn K (.ref x_NoSheet.C) (.ref x_NoText.C) = some false
  s_NoSheet_NoPlace : PySem.W.subIn K (.ref x_NoSheet.C) (.ref x_NoPlace.C) = some false
  s_NoSheet_NoNumber : PySem.W.subIn K (.ref x_NoSheet.C) (.ref x_NoNumber.C) = some false
  s_NoSheet_NoRings : PySem.W.subIn K (.ref x_NoSheet.C) (.ref x_NoRings.C) = some false
  s_NoSheet_Full : PySem.W.subIn K (.ref x_NoSheet.C) (.ref x_Full.C) = some false
  s_NoSheet_NoLengths : PySem.W.subIn K (.ref x_NoSheet.C) (.ref x_NoLengths.C) = some false
  s_NoSheet_NoName : PySem.W.subIn K (.ref x_NoSheet.C) (.ref x_NoName.C) = some false
  s_NoSheet_NoRow : PySem.W.subIn K (.ref x_NoSheet.C) (.ref x_NoRow.C) = some false
  s_NoSheet_NoSeen : PySem.W.subIn K (.ref x_NoSheet.C) (.ref x_NoSeen.C) = some false
  s_NoSheet_Nothing : PySem.W.subIn K (.ref x_NoSheet.C) (.ref x_Nothing.C) = some false
  s_NoSheet_NoWriting : PySem.W.subIn K (.ref x_NoSheet.C) (.ref x_NoWriting.C) = some false
  s_NoSheet_TooMany : PySem.W.subIn K (.ref x_NoSheet.C) (.ref x_TooMany.C) = some false
  s_NoSheet_KeysError : PySem.W.subIn K (.ref x_NoSheet.C) (.ref x_KeysError.C) = some true
  s_NoSheet_NoLetter : PySem.W.subIn K (.ref x_NoSheet.C) (.ref x_NoLetter.C) = some false
  s_NoSheet_NoStand : PySem.W.subIn K (.ref x_NoSheet.C) (.ref x_NoStand.C) = some false
  s_NoSheet_NoPlay : PySem.W.subIn K (.ref x_NoSheet.C) (.ref x_NoPlay.C) = some false
  s_NoTimes_NoHand : PySem.W.subIn K (.ref x_NoTimes.C) (.ref x_NoHand.C) = some false
  s_NoTimes_NoSheet : PySem.W.subIn K (.ref x_NoTimes.C) (.ref x_NoSheet.C) = some false
  s_NoTimes_NoText : PySem.W.subIn K (.ref x_NoTimes.C) (.ref x_NoText.C) = some false
  s_NoTimes_NoPlace : PySem.W.subIn K (.ref x_NoTimes.C) (.ref x_NoPlace.C) = some false
  s_NoTimes_NoNumber : PySem.W.subIn K (.ref x_NoTimes.C) (.ref x_NoNumber.C) = some false
  s_NoTimes_NoRings : PySem.W.subIn K (.ref x_NoTimes.C) (.ref x_NoRings.C) = some false
  s_NoTimes_Full : PySem.W.subIn K (.ref x_NoTimes.C) (.ref x_Full.C) = some false
  s_NoTimes_NoLengths : PySem.W.subIn K (.ref x_NoTimes.C) (.ref x_NoLengths.C) = some false
  s_NoTimes_NoName : PySem.W.subIn K (.ref x_NoTimes.C) (.ref x_NoName.C) = some false
  s_NoTimes_NoRow : PySem.W.subIn K (.ref x_NoTimes.C) (.ref x_NoRow.C) = some false
  s_NoTimes_NoSeen : PySem.W.subIn K (.ref x_NoTimes.C) (.ref x_NoSeen.C) = some false
  s_NoTimes_Nothing : PySem.W.subIn K (.ref x_NoTimes.C) (.ref x_Nothing.C) = some false
  s_NoTimes_NoWriting : PySem.W.subIn K (.ref x_NoTimes.C) (.ref x_NoWriting.C) = some false
  s_NoTimes_TooMany : PySem.W.subIn K (.ref x_NoTimes.C) (.ref x_TooMany.C) = some false
  s_NoTimes_KeysError : PySem.W.subIn K (.ref x_NoTimes.C) (.ref x_KeysError.C) = some true
  s_NoTimes_NoLetter : PySem.W.subIn K (.ref x_NoTimes.C) (.ref x_NoLetter.C) = some false
  s_NoTimes_NoStand : PySem.W.subIn K (.ref x_NoTimes.C) (.ref x_NoStand.C) = some false
  s_NoTimes_NoPlay : PySem.W.subIn K (.ref x_NoTimes.C) (.ref x_NoPlay.C) = some false
  c_ALPHABET : ∃ t, mg "ALPHABET" = some (.str "abcdefghijklmnopqrstuvwxyz" t)
  c_HEAVIEST : ∃ t, mg "HEAVIEST" = some (.int 60 t)
  c_LONGEST_WORD : ∃ t, mg "LONGEST_WORD" = some (.int 60 t)
  c_MOST_TIMES : ∃ t, mg "MOST_TIMES" = some (.int 300 t)
  c_NUMBERS : IDict K w mg "NUMBERS" [("left", 0), ("right", 1), ("clip", 2)]
  c_SIDES : SDict K w mg "SIDES" [("left", "left"), ("rub", "left"), ("right", "right"), ("strike", "right"), ("copy", "right"), ("cut", "right")]
theorem pe_c_ALPHABET {X : Cx} {pos : Pos} (T : Txt X.K X.mg X.w) (hg : Gl X "ALPHABET" := by rfl) : PE X (.Name "ALPHABET" pos) (tC (.str "abcdefghijklmnopqrstuvwxyz")) := by
  obtain ⟨t, e⟩ := T.c_ALPHABET
  exact pe_glob hg e ⟨_, rfl⟩
theorem pe_c_HEAVIEST {X : Cx} {pos : Pos} (T : Txt X.K X.mg X.w) (hg : Gl X "HEAVIEST" := by rfl) : PE X (.Name "HEAVIEST" pos) (tC (.int 60)) := by
  obtain ⟨t, e⟩ := T.c_HEAVIEST
  exact pe_glob hg e ⟨_, rfl⟩
theorem pe_c_LONGEST_WORD {X : Cx} {pos : Pos} (T : Txt X.K X.mg X.w) (hg : Gl X "LONGEST_WORD" := by rfl) : PE X (.Name "LONGEST_WORD" pos) (tC (.int 60)) := by
  obtain ⟨t, e⟩ := T.c_LONGEST_WORD
  exact pe_glob hg e ⟨_, rfl⟩
theorem pe_c_MOST_TIMES {X : Cx} {pos : Pos} (T : Txt X.K X.mg X.w) (hg : Gl X "MOST_TIMES" := by rfl) : PE X (.Name "MOST_TIMES" pos) (tC (.int 300)) := by
  obtain ⟨t, e⟩ := T.c_MOST_TIMES
  exact pe_glob hg e ⟨_, rfl⟩
local macro_rules | `(tactic| walk_at "rd") => `(tactic| try dsimp only [tSeq, tNext, tRet, tRetN, tDrop, tIfS, tAsg, tPar, tAug, tVar, tC, tOp, tUn, tCB, tCons, tNil, tTup, tLst, tCall, tTest, tB, tNot, tAnd, tOr, tAndV, tOrV, tNotV, tIf, tIsN, tNotN, tSl, tPart, tNoPart, tM1, tM0, tBM, tBM0, tChain, gName, gTup, gUnl, gCons, gNil, List.nil_append, List.append_nil, List.cons_append])
section
variable {P : Program} {w : World} {K : PySem.W.Frag} {mg : Str → Option Value} {base : Heap}
/-! ## kinds -/
def spIsRow (K : PySem.W.Frag) : Sp := fun vs H Q _ => ∃ v d, vs = [v] ∧ At K H v d ∧ ∀ H', Same H H' → Q (.bl (isRow d)) H'
theorem ok_is_row (T : Txt K mg w) : FnOk P w K mg base CX0 1 T.f_is_row.f T.f_is_row.fd ["thing"] (spIsRow K) := by
  refine T.f_is_row.F.ok sc_is_row (fun vs H Q E h => ?_) (fun cdv A outer s H vs Q E hr h => ?_)
  · obtain ⟨v, d, rfl, _⟩ := h
    rfl
  obtain ⟨v, d, rfl, hv, q⟩ := h
  refine ⟨_, (pss_one (ps_ret (pe_cmpR op_in_ty (pe_callTy call_type1 (by rfl) T.b_type (by decide +kernel) (pa_cons (pv 0) pa_nil)) (pe_tup (pa_cons (pe_bltn (v := .ty "list") (by rfl) T.b_list (by decide +kernel) rfl) (pa_cons (pe_bltn (v := .ty "tuple") (by rfl) T.b_tuple (by decide +kernel) rfl) pa_nil))) (by rfl)))), ?_⟩
  walk_at "rd"
  refine ⟨v, rfl, v, d.ty, rfl, hv.ty, (by show 2 ≤ sizeLine; decide), fun p hp => ?_⟩
  refine ⟨d.ty, p, ["list", "tuple"], rfl, rfl, SqT.of upd_same, ty_known d, by decide, ?_⟩
  have e : decide (d.ty ∈ ["list", "tuple"]) = isRow d := by cases d <;> simp [Dt.ty, isRow]
  rw [e]
  exact q _ (same_upd hp)

def spIsWhole (K : PySem.W.Frag) : Sp := fun vs H Q _ => ∃ v d lo, vs = [v, .int lo] ∧ At K H v d ∧ Q (.bl (isWhole d lo)) H
theorem ok_is_whole (T : Txt K mg w) : FnOk P w K mg base CX0 1 T.f_is_whole.f T.f_is_whole.fd ["thing", "low"] (spIsWhole K) := by
  refine T.f_is_whole.F.ok sc_is_whole (fun vs H Q E h => ?_) (fun cdv A outer s H vs Q E hr h => ?_)
  · obtain ⟨v, d, lo, rfl, _⟩ := h
    rfl
  obtain ⟨v, d, lo, rfl, hv, q⟩ := h
  refine ⟨_, (pss_one (ps_ret (pe_and (pe_cmpR op_isTyB (pe_callTy call_type1 (by rfl) T.b_type (by decide +kernel) (pa_cons (pv 0) pa_nil)) (pe_bltn (v := .ty "int") (by rfl) T.b_int (by decide +kernel) rfl) (nomark _)) (pe_one (pe_cmpR op_ge (pv 0) (pv 1) (nomark _)))))), ?_⟩
  walk_at "rd"
  refine ⟨v, rfl, v, d.ty, rfl, hv.ty, d.ty, "int", rfl, rfl, _, rfl, ite2 (fun e => ?_) (fun e => ?_)⟩
  · have e2 := of_decide_eq_true e
    cases d with
    | int i =>
      unfold At at hv
      subst hv
      exact ⟨_, rfl, _, rfl, i, lo, rfl, rfl, q⟩
    | _ => exact absurd e2 (by simp [Dt.ty])
  · have e2 : isWhole d lo = false := by
      cases d with
      | int i => exact absurd (decide_eq_true rfl) e
      | _ => rfl
    rw [e2] at q
    exact q

def spIsPlain (K : PySem.W.Frag) : Sp := fun vs H Q _ => ∃ v d, vs = [v] ∧ At K H v d ∧ Q (.bl (isPlain d)) H
theorem ok_is_plain (T : Txt K mg w) : FnOk P w K mg base CX0 1 T.f_is_plain.f T.f_is_plain.fd ["thing"] (spIsPlain K) := by
  refine T.f_is_plain.F.ok sc_is_plain (fun vs H Q E h => ?_) (fun cdv A outer s H vs Q E hr h => ?_)
  · obtain ⟨v, d, rfl, _⟩ := h
    rfl
  obtain ⟨v, d, rfl, hv, q⟩ := h
  refine ⟨_, (pss_one (ps_ret (pe_and (pe_cmpR op_isTyB (pe_callTy call_type1 (by rfl) T.b_type (by decide +kernel) (pa_cons (pv 0) pa_nil)) (pe_bltn (v := .ty "str") (by rfl) T.b_str (by decide +kernel) rfl) (nomark _)) (pe_one (pe_cmpR op_eq (pe_m1 PySem.F.slot_str_strip PySem.F.type_str_strip mt_stripChars (pv 0) (pe_c_ALPHABET T)) pe_str (nomark _)))))), ?_⟩
  walk_at "rd"
  refine ⟨v, rfl, v, d.ty, rfl, hv.ty, d.ty, "str", rfl, rfl, _, rfl, ite2 (fun e => ?_) (fun e => ?_)⟩
  · have e2 := of_decide_eq_true e
    cases d with
    | str x =>
      unfold At at hv
      obtain ⟨rfl, hl⟩ := hv
      refine ⟨_, rfl, ⟨_, rfl⟩, _, _, rfl, rfl, (by rw [tx_len]; exact Nat.le_trans hl (by decide)), rfl, ?_⟩
      have e3 : decide (V.str (Txt.stripChars (tx x) ("abcdefghijklmnopqrstuvwxyz" : Str)) = V.str ("" : Str)) = isPlain (.str x) := by
        rw [← tx_alpha, ← tx_nil, Bool.eq_iff_iff, decide_eq_true_iff]
        have := strip_iff x alpha
        constructor
        · intro h
          exact this.mp (V.str.inj h)
        · intro h
          exact congrArg V.str (this.mpr h)
      rw [e3]
      exact q
    | _ => exact absurd e2 (by simp [Dt.ty])
  · have e2 : isPlain d = false := by
      cases d with
      | str i => exact absurd (decide_eq_true rfl) e
      | _ => rfl
    rw [e2] at q
    exact q

def spIsWithin (K : PySem.W.Frag) : Sp := fun vs H Q _ => ∃ v d lo hi, vs = [v, .int lo, .int hi] ∧ At K H v d ∧ Q (.bl (isWithin d lo hi)) H
theorem ok_is_within (T : Txt K mg w) : FnOk P w K mg base CX0 2 T.f_is_within.f T.f_is_within.fd ["thing", "low", "high"] (spIsWithin K) := by
  refine T.f_is_within.F.ok sc_is_within (fun vs H Q E h => ?_) (fun cdv A outer s H vs Q E hr h => ?_)
  · obtain ⟨v, d, lo, hi, rfl, _⟩ := h
    rfl
  obtain ⟨v, d, lo, hi, rfl, hv, q⟩ := h
  refine ⟨_, (pss_one (ps_ret (pe_and (pe_call (ok_is_whole T) (hr.mono (by decide)) (by rfl) T.f_is_whole.g T.f_is_whole.F.kp T.f_is_whole.b .nil pass0 (pa_cons (pv 0) (pa_cons (pv 1) pa_nil))) (pe_one (pe_cmpR op_le (pv 0) (pv 2) (nomark _)))))), ?_⟩
  walk_at "rd"
  refine ⟨v, rfl, .int lo, rfl, v, d, lo, rfl, hv, _, rfl, ite2 (fun e => ?_) (fun e => ?_)⟩
  · cases d with
    | int i =>
      unfold At at hv
      subst hv
      rw [show isWithin (.int i) lo hi = (isWhole (.int i) lo && decide (i ≤ hi)) from rfl, e, Bool.true_and] at q
      exact ⟨_, rfl, _, rfl, i, hi, rfl, rfl, q⟩
    | _ => exact absurd e (by simp [isWhole])
  · have e2 : isWithin d lo hi = false := by
      cases d with
      | int i =>
        rw [show isWithin (.int i) lo hi = (isWhole (.int i) lo && decide (i ≤ hi)) from rfl, Bool.eq_false_iff.mpr e, Bool.false_and]
      | _ => rfl
    rw [e2] at q
    exact q

def spStr (f : Dt → Bool) (K : PySem.W.Frag) : Sp := fun vs H Q _ => ∃ v d, vs = [v] ∧ At K H v d ∧ Q (.bl (f d)) H
theorem plain_str {d : Dt} (h : isPlain d = true) : ∃ x, d = .str x ∧ x.all (alpha.contains ·) = true := by
  cases d with
  | str x => exact ⟨x, rfl, h⟩
  | _ => cases h
theorem ok_is_clip (T : Txt K mg w) : FnOk P w K mg base CX0 2 T.f_is_clip.f T.f_is_clip.fd ["thing"] (spStr isClip K) := by
  refine T.f_is_clip.F.ok sc_is_clip (fun vs H Q E h => ?_) (fun cdv A outer s H vs Q E hr h => ?_)
  · obtain ⟨v, d, rfl, _⟩ := h
    rfl
  obtain ⟨v, d, rfl, hv, q⟩ := h
  refine ⟨_, (pss_one (ps_ret (pe_and (pe_call (ok_is_plain T) (hr.mono (by decide)) (by rfl) T.f_is_plain.g T.f_is_plain.F.kp T.f_is_plain.b .nil pass0 (pa_cons (pv 0) pa_nil)) (pe_one (pe_cmpR op_le (pe_callB (call_lenK K) (by rfl) T.b_len (by decide +kernel) (pa_cons (pv 0) pa_nil)) (pe_c_LONGEST_WORD T) (nomark _)))))), ?_⟩
  walk_at "rd"
  refine ⟨v, rfl, v, d, rfl, hv, _, rfl, ite2 (fun e => ?_) (fun e => ?_)⟩
  · obtain ⟨x, rfl, hx⟩ := plain_str e
    unfold At at hv
    obtain ⟨rfl, hl⟩ := hv
    refine ⟨_, rfl, len_tx hl ⟨_, _, rfl, rfl, ?_⟩⟩
    have e3 : decide ((x.length : Int) ≤ 60) = isClip (.str x) := by
      rw [show isClip (.str x) = (isPlain (.str x) && decide (x.length ≤ 60)) from rfl, e, Bool.true_and, Bool.eq_iff_iff, decide_eq_true_iff, decide_eq_true_iff]
      omega
    rw [← e3] at q
    exact q
  · have e2 : isClip d = false := by
      cases d with
      | str x =>
        rw [show isClip (.str x) = (isPlain (.str x) && decide (x.length ≤ 60)) from rfl, Bool.eq_false_iff.mpr e, Bool.false_and]
      | _ => rfl
    rw [e2] at q
    exact q
theorem ok_is_word (T : Txt K mg w) : FnOk P w K mg base CX0 3 T.f_is_word.f T.f_is_word.fd ["thing"] (spStr isWord K) := by
  refine T.f_is_word.F.ok sc_is_word (fun vs H Q E h => ?_) (fun cdv A outer s H vs Q E hr h => ?_)
  · obtain ⟨v, d, rfl, _⟩ := h
    rfl
  obtain ⟨v, d, rfl, hv, q⟩ := h
  refine ⟨_, (pss_one (ps_ret (pe_and (pe_call (ok_is_clip T) (hr.mono (by decide)) (by rfl) T.f_is_clip.g T.f_is_clip.F.kp T.f_is_clip.b .nil pass0 (pa_cons (pv 0) pa_nil)) (pe_one (pe_cmpR op_ne (pv 0) pe_str (nomark _)))))), ?_⟩
  walk_at "rd"
  refine ⟨v, rfl, v, d, rfl, hv, _, rfl, ite2 (fun e => ?_) (fun e => ?_)⟩
  · cases d with
    | str x =>
      unfold At at hv
      obtain ⟨rfl, hl⟩ := hv
      refine ⟨_, rfl, rfl, ?_⟩
      have e3 : (!decide (V.str (tx x) = V.str ("" : Str))) = isWord (.str x) := by
        rw [show isWord (.str x) = (isClip (.str x) && decide (x ≠ [])) from rfl, e, Bool.true_and, ← tx_nil, Bool.eq_iff_iff, Bool.not_eq_true', decide_eq_false_iff_not, decide_eq_true_iff, tx_eq]
      rw [e3]
      exact q
    | _ => cases e
  · have e2 : isWord d = false := by
      cases d with
      | str x =>
        rw [show isWord (.str x) = (isClip (.str x) && decide (x ≠ [])) from rfl, Bool.eq_false_iff.mpr e, Bool.false_and]
      | _ => rfl
    rw [e2] at q
    exact q

/-! ## pieces -/
def spIsPiece (f : Dt → Bool) (K : PySem.W.Frag) : Sp := fun vs H Q _ => ∃ v d, vs = [v] ∧ At K H v d ∧ ∀ H', Same H H' → Q (.bl (f d)) H'
def spCheckText (K : PySem.W.Frag) : Sp := fun vs H Q _ => ∃ v d, vs = [v] ∧ At K H v d ∧ isText d = true ∧ ∀ H', Same H H' → Q .non H'
def spCheckLetter (K : PySem.W.Frag) : Sp := fun vs H Q _ => ∃ c, vs = [.str (tx [c])] ∧ alpha.contains c = true ∧ Q .non H

theorem six_neg {n len d : Nat} (h : 1 ≤ n) : HT.sIx len d (some (-(n : Int))) = len - n := by
  show (if (-(n : Int)) < 0 then (-(n : Int) + (len : Int)).toNat else min (-(n : Int)).toNat len) = len - n
  rw [if_pos (by omega)]
  omega
theorem cut_near (xs : List V) {n : Nat} (h : 1 ≤ n) : cutV xs (some (-(n : Int))) none = xs.drop (xs.length - n) := by
  unfold cutV
  rw [six_neg h]
  show (xs.drop (xs.length - n)).take (xs.length - (xs.length - n)) = _
  rw [List.take_of_length_le]
  rw [List.length_drop]
  omega
def spNearest : Sp := fun vs H Q _ => ∃ (a : Addr) (n : Nat) (xs : List V), vs = [.ref a, .int n] ∧ 1 ≤ n ∧ H a = some (.lst xs) ∧ ∀ p, H p = none → Q (.ref p) (upd H p (.lst (near xs n)))
theorem ok_nearest (T : Txt K mg w) : FnOk P w K mg base CX0 1 T.f_nearest.f T.f_nearest.fd ["side", "many"] spNearest := by
  refine T.f_nearest.F.ok sc_nearest (fun vs H Q E h => ?_) (fun cdv A outer s H vs Q E hr h => ?_)
  · obtain ⟨a, n, xs, rfl, _⟩ := h
    rfl
  obtain ⟨a, n, xs, rfl, hn, ha, q⟩ := h
  refine ⟨_, (pss_cons (ps_set (i := 2) sc_nearest.nd rfl (.inl rfl) (pe_slice sl_list (pv 0) (po_some (pe_un un_neg (pv 1))) po_none))
      (pss_cons (ps_expr (pe_bm0 PySem.F.plainAttrs_list PySem.F.slot_list_reverse PySem.F.type_list_reverse mt_reverse (pv 2)))
      (pss_one (ps_ret (pv 2))))), ?_⟩
  walk_at "rd"
  refine ⟨_, rfl, _, rfl, _, rfl, _, rfl, a, xs, rfl, SqL.of ha, fun p hp => ?_⟩
  rw [cut_near xs hn]
  refine ⟨_, rfl, .inl ⟨rfl, _, SqL.of upd_same⟩, p, _, rfl, rfl, upd_same, ?_⟩
  rw [upd_upd]
  exact ⟨_, rfl, q p hp⟩
def spTake : Sp := fun vs H Q _ => ∃ (a : Addr) (n : Nat) (xs : List V), vs = [.ref a, .int n] ∧ 1 ≤ n ∧ H a = some (.lst xs) ∧ ∀ p, H p = none → p ≠ a → Q (.ref p) (upd (upd H p (.lst (near xs n))) a (.lst (rest xs n)))
theorem ok_take (T : Txt K mg w) : FnOk P w K mg base CX0 2 T.f_take.f T.f_take.fd ["side", "many"] spTake := by
  refine T.f_take.F.ok sc_take (fun vs H Q E h => ?_) (fun cdv A outer s H vs Q E hr h => ?_)
  · obtain ⟨a, n, xs, rfl, _⟩ := h
    rfl
  obtain ⟨a, n, xs, rfl, hn, ha, q⟩ := h
  refine ⟨_, (pss_cons (ps_set (i := 2) sc_take.nd rfl (.inl rfl) (pe_call (ok_nearest T) (hr.mono (by decide)) (by rfl) T.f_nearest.g T.f_nearest.F.kp T.f_nearest.b .nil pass0 (pa_cons (pv 0) (pa_cons (pv 1) pa_nil))))
      (pss_cons (ps_delS (pv 0) (po_some (pe_un un_neg (pv 1))))
      (pss_one (ps_ret (pv 2))))), ?_⟩
  walk_at "rd"
  refine ⟨_, rfl, _, rfl, a, n, xs, rfl, hn, ha, fun p hp => ?_⟩
  have hpa : p ≠ a := fun e => by rw [e, ha] at hp; cases hp
  refine ⟨_, rfl, _, rfl, _, rfl, _, rfl, a, xs, rfl, (by rw [upd_ne hpa.symm]; exact ha), ?_⟩
  rw [six_neg hn]
  exact ⟨_, rfl, q p hp hpa⟩
theorem st_no {x y : Str} {A B : Prop} (h : x ≠ y) (b : B) : ∃ k, V.bl (decide (V.str x = V.str y)) = .bl k ∧ if k = true then A else B := ⟨_, rfl, by rw [decide_eq_false (fun e => h (V.str.inj e)), if_neg Bool.false_ne_true]; exact b⟩
theorem st_yes {x : Str} {A B : Prop} (a : A) : ∃ k, V.bl (decide (V.str x = V.str x)) = .bl k ∧ if k = true then A else B := ⟨_, rfl, by rw [decide_eq_true rfl, if_pos rfl]; exact a⟩
def sdV (s : Sd V) (H : Hp) (a b c : Addr) : Prop := H a = some (.lst s.l) ∧ H b = some (.lst s.r) ∧ H c = some (.lst s.c) ∧ a ≠ b ∧ a ≠ c ∧ b ≠ c
def spDoKey (K : PySem.W.Frag) : Sp := fun vs H Q _ => ∃ (kv : V) (k : Ky) (a b c : Addr) (s : Sd V), vs = [kv, .ref a, .ref b, .ref c] ∧ KeyAt K H kv k ∧ k.ok ∧ sdV s H a b c ∧ s.size + s.c.length + 60 ≤ 2000000 ∧
  ∀ p H', (∀ x o, x ≠ a → x ≠ b → H x = some o → H' x = some o) → sdV (step lV k s) H' a b p → Q (.ref p) H'
theorem ok_do_key (T : Txt K mg w) : FnOk P w K mg base CX0 3 T.f_do_key.f T.f_do_key.fd ["key", "left", "right", "held"] (spDoKey K) := by
  refine T.f_do_key.F.ok sc_do_key (fun vs H Q E h => ?_) (fun cdv A outer s H vs Q E hr h => ?_)
  · obtain ⟨kv, k, a, b, c, s, rfl, _⟩ := h
    rfl
  obtain ⟨kv, k, a, b, c, s, rfl, ⟨u, rfl, hk⟩, hok, ⟨ha, hb, hc, hab, hac, hbc⟩, hz, q⟩ := h
  refine ⟨_, (pss_cons (ps_set (i := 4) sc_do_key.nd rfl (.inl rfl) (pe_ix ix_seq (pv 0) pe_int (fun _ _ => rfl)))
      (pss_cons (ps_if (pt_cmpR op_eq (pv 4) pe_str (nomark _)) (pss_one (ps_expr (pe_bm PySem.F.plainAttrs_list PySem.F.slot_list_extend PySem.F.type_list_extend mt_extend (pv 1) (pa_cons (pe_callTy (call_listS rfl) (by rfl) T.b_list (by decide +kernel) (pa_cons (pe_ix ix_seq (pv 0) pe_int (fun _ _ => rfl)) pa_nil)) pa_nil)))) (pss_one (ps_if (pt_cmpR op_eq (pv 4) pe_str (nomark _)) (pss_one (ps_expr (pe_bm PySem.F.plainAttrs_list PySem.F.slot_list_extend PySem.F.type_list_extend mt_extend (pv 1) (pa_cons (pv 3) pa_nil)))) (pss_one (ps_if (pt_cmpR op_eq (pv 4) pe_str (nomark _)) (pss_one (ps_expr (pe_bm PySem.F.plainAttrs_list PySem.F.slot_list_extend PySem.F.type_list_extend mt_extend (pv 2) (pa_cons (pe_call (ok_take T) (hr.mono (by decide)) (by rfl) T.f_take.g T.f_take.F.kp T.f_take.b .nil pass0 (pa_cons (pv 1) (pa_cons (pe_ix ix_seq (pv 0) pe_int (fun _ _ => rfl)) pa_nil))) pa_nil)))) (pss_one (ps_if (pt_cmpR op_eq (pv 4) pe_str (nomark _)) (pss_one (ps_expr (pe_bm PySem.F.plainAttrs_list PySem.F.slot_list_extend PySem.F.type_list_extend mt_extend (pv 1) (pa_cons (pe_call (ok_take T) (hr.mono (by decide)) (by rfl) T.f_take.g T.f_take.F.kp T.f_take.b .nil pass0 (pa_cons (pv 2) (pa_cons (pe_ix ix_seq (pv 0) pe_int (fun _ _ => rfl)) pa_nil))) pa_nil)))) (pss_one (ps_if (pt_cmpR op_eq (pv 4) pe_str (nomark _)) (pss_one (ps_expr (pe_call (ok_take T) (hr.mono (by decide)) (by rfl) T.f_take.g T.f_take.F.kp T.f_take.b .nil pass0 (pa_cons (pv 1) (pa_cons (pe_ix ix_seq (pv 0) pe_int (fun _ _ => rfl)) pa_nil))))) (pss_one (ps_if (pt_cmpR op_eq (pv 4) pe_str (nomark _)) (pss_one (ps_expr (pe_call (ok_take T) (hr.mono (by decide)) (by rfl) T.f_take.g T.f_take.F.kp T.f_take.b .nil pass0 (pa_cons (pv 2) (pa_cons (pe_ix ix_seq (pv 0) pe_int (fun _ _ => rfl)) pa_nil))))) (pss_one (ps_if (pt_cmpR op_eq (pv 4) pe_str (nomark _)) (pss_one (ps_ret (pe_call (ok_nearest T) (hr.mono (by decide)) (by rfl) T.f_nearest.g T.f_nearest.F.kp T.f_nearest.b .nil pass0 (pa_cons (pv 2) (pa_cons (pe_ix ix_seq (pv 0) pe_int (fun _ _ => rfl)) pa_nil))))) (pss_one (ps_ret (pe_call (ok_take T) (hr.mono (by decide)) (by rfl) T.f_take.g T.f_take.F.kp T.f_take.b .nil pass0 (pa_cons (pv 2) (pa_cons (pe_ix ix_seq (pv 0) pe_int (fun _ _ => rfl)) pa_nil))))))))))))))))))
      (pss_one (ps_ret (pv 3))))), ?_⟩
  walk_at "rd"
  unfold Sd.size at hz
  have fr : ∀ {x p : Addr} {o : HO}, H p = none → H x = some o → x ≠ p := fun hp hx e => by rw [e, hp] at hx; cases hx
  have big : ∀ {m : Nat}, m ≤ 2000000 → m ≤ sizeLine := fun h => Nat.le_trans h (by decide)
  cases k with
  | write w =>
    refine ⟨_, rfl, ix_row hk (at_ofA (j := 0) rfl rfl) ⟨_, rfl, rfl, st_yes ?_⟩⟩
    walk_at "rd"
    refine ⟨_, rfl, .inl ⟨rfl, _, SqL.of ha⟩, _, rfl, ix_row hk (at_ofA (j := 1) rfl rfl) ⟨tx w, rfl, ?_, fun p hp => ?_⟩⟩
    · rw [← Array.length_toList, tx_cps]
      have := hok.2.1
      exact big (by omega)
    · rw [tx_cps]
      refine ⟨a, p, s.l, w.map lV, rfl, rfl, by rw [upd_ne (fr hp ha)]; exact ha, upd_same, big ?_, _, rfl, q c _ (fun x o xa xb hx => ?_) ⟨upd_same, ?_, ?_, hab, hac, hbc⟩⟩
      · rw [List.length_map]
        have := hok.2.1
        omega
      · rw [upd_ne xa, upd_ne (fr hp hx)]
        exact hx
      · rw [upd_ne hab.symm, upd_ne (fr hp hb)]
        exact hb
      · rw [upd_ne hac.symm, upd_ne (fr hp hc)]
        exact hc
  | paste =>
    refine ⟨_, rfl, ix_row hk (at_ofA (j := 0) rfl rfl) ⟨_, rfl, rfl, st_no (by decide) ⟨_, rfl, rfl, st_yes ?_⟩⟩⟩
    walk_at "rd"
    refine ⟨_, rfl, .inl ⟨rfl, _, SqL.of ha⟩, _, rfl, a, c, s.l, s.c, rfl, rfl, ha, hc, big (by omega), _, rfl, q c _ (fun x o xa xb hx => ?_) ⟨upd_same, ?_, ?_, hab, hac, hbc⟩⟩
    · rw [upd_ne xa]
      exact hx
    · rw [upd_ne hab.symm]
      exact hb
    · rw [upd_ne hac.symm]
      exact hc
  | left n =>
    refine ⟨_, rfl, ix_row hk (at_ofA (j := 0) rfl rfl) ⟨_, rfl, rfl, st_no (by decide) ⟨_, rfl, rfl, st_no (by decide) ⟨_, rfl, rfl, st_yes ?_⟩⟩⟩⟩
    walk_at "rd"
    refine ⟨_, rfl, .inl ⟨rfl, _, SqL.of hb⟩, _, rfl, _, rfl, ix_row hk (at_ofA (j := 1) rfl rfl) ⟨a, n, s.l, rfl, hok, ha, fun p hp hpa => ?_⟩⟩
    refine ⟨b, p, s.r, near s.l n, rfl, rfl, by rw [upd_ne hab.symm, upd_ne (fr hp hb)]; exact hb, by rw [upd_ne hpa, upd_same], big ?_, _, rfl, q c _ (fun x o xa xb hx => ?_) ⟨?_, upd_same, ?_, hab, hac, hbc⟩⟩
    · rw [near_len]
      omega
    · rw [upd_ne xb, upd_ne xa, upd_ne (fr hp hx)]
      exact hx
    · rw [upd_ne hab, upd_same]
      rfl
    · rw [upd_ne hbc.symm, upd_ne hac.symm, upd_ne (fr hp hc)]
      exact hc
  | right n =>
    refine ⟨_, rfl, ix_row hk (at_ofA (j := 0) rfl rfl) ⟨_, rfl, rfl, st_no (by decide) ⟨_, rfl, rfl, st_no (by decide) ⟨_, rfl, rfl, st_no (by decide) ⟨_, rfl, rfl, st_yes ?_⟩⟩⟩⟩⟩
    walk_at "rd"
    refine ⟨_, rfl, .inl ⟨rfl, _, SqL.of ha⟩, _, rfl, _, rfl, ix_row hk (at_ofA (j := 1) rfl rfl) ⟨b, n, s.r, rfl, hok, hb, fun p hp hpb => ?_⟩⟩
    refine ⟨a, p, s.l, near s.r n, rfl, rfl, by rw [upd_ne hab, upd_ne (fr hp ha)]; exact ha, by rw [upd_ne hpb, upd_same], big ?_, _, rfl, q c _ (fun x o xa xb hx => ?_) ⟨upd_same, ?_, ?_, hab, hac, hbc⟩⟩
    · rw [near_len]
      omega
    · rw [upd_ne xa, upd_ne xb, upd_ne (fr hp hx)]
      exact hx
    · rw [upd_ne hab.symm, upd_same]
      rfl
    · rw [upd_ne hac.symm, upd_ne hbc.symm, upd_ne (fr hp hc)]
      exact hc
  | rub n =>
    refine ⟨_, rfl, ix_row hk (at_ofA (j := 0) rfl rfl) ⟨_, rfl, rfl, st_no (by decide) ⟨_, rfl, rfl, st_no (by decide) ⟨_, rfl, rfl, st_no (by decide) ⟨_, rfl, rfl, st_no (by decide) ⟨_, rfl, rfl, st_yes ?_⟩⟩⟩⟩⟩⟩
    walk_at "rd"
    refine ⟨_, rfl, _, rfl, ix_row hk (at_ofA (j := 1) rfl rfl) ⟨a, n, s.l, rfl, hok, ha, fun p hp hpa => ?_⟩⟩
    refine ⟨_, rfl, q c _ (fun x o xa xb hx => ?_) ⟨upd_same, ?_, ?_, hab, hac, hbc⟩⟩
    · rw [upd_ne xa, upd_ne (fr hp hx)]
      exact hx
    · rw [upd_ne hab.symm, upd_ne (fr hp hb)]
      exact hb
    · rw [upd_ne hac.symm, upd_ne (fr hp hc)]
      exact hc
  | strike n =>
    refine ⟨_, rfl, ix_row hk (at_ofA (j := 0) rfl rfl) ⟨_, rfl, rfl, st_no (by decide) ⟨_, rfl, rfl, st_no (by decide) ⟨_, rfl, rfl, st_no (by decide) ⟨_, rfl, rfl, st_no (by decide) ⟨_, rfl, rfl, st_no (by decide) ⟨_, rfl, rfl, st_yes ?_⟩⟩⟩⟩⟩⟩⟩
    walk_at "rd"
    refine ⟨_, rfl, _, rfl, ix_row hk (at_ofA (j := 1) rfl rfl) ⟨b, n, s.r, rfl, hok, hb, fun p hp hpb => ?_⟩⟩
    refine ⟨_, rfl, q c _ (fun x o xa xb hx => ?_) ⟨?_, upd_same, ?_, hab, hac, hbc⟩⟩
    · rw [upd_ne xb, upd_ne (fr hp hx)]
      exact hx
    · rw [upd_ne hab, upd_ne (fr hp ha)]
      exact ha
    · rw [upd_ne hbc.symm, upd_ne (fr hp hc)]
      exact hc
  | copy n =>
    refine ⟨_, rfl, ix_row hk (at_ofA (j := 0) rfl rfl) ⟨_, rfl, rfl, st_no (by decide) ⟨_, rfl, rfl, st_no (by decide) ⟨_, rfl, rfl, st_no (by decide) ⟨_, rfl, rfl, st_no (by decide) ⟨_, rfl, rfl, st_no (by decide) ⟨_, rfl, rfl, st_no (by decide) ⟨_, rfl, rfl, st_yes ?_⟩⟩⟩⟩⟩⟩⟩⟩
    walk_at "rd"
    refine ⟨_, rfl, _, rfl, ix_row hk (at_ofA (j := 1) rfl rfl) ⟨b, n, s.r, rfl, hok, hb, fun p hp => ?_⟩⟩
    refine q p _ (fun x o xa xb hx => ?_) ⟨?_, ?_, upd_same, hab, fr hp ha, fr hp hb⟩
    · rw [upd_ne (fr hp hx)]
      exact hx
    · rw [upd_ne (fr hp ha)]
      exact ha
    · rw [upd_ne (fr hp hb)]
      exact hb
  | cut n =>
    refine ⟨_, rfl, ix_row hk (at_ofA (j := 0) rfl rfl) ⟨_, rfl, rfl, st_no (by decide) ⟨_, rfl, rfl, st_no (by decide) ⟨_, rfl, rfl, st_no (by decide) ⟨_, rfl, rfl, st_no (by decide) ⟨_, rfl, rfl, st_no (by decide) ⟨_, rfl, rfl, st_no (by decide) ⟨_, rfl, rfl, st_no (by decide) ?_⟩⟩⟩⟩⟩⟩⟩⟩
    walk_at "rd"
    refine ⟨_, rfl, _, rfl, ix_row hk (at_ofA (j := 1) rfl rfl) ⟨b, n, s.r, rfl, hok, hb, fun p hp hpb => ?_⟩⟩
    refine q p _ (fun x o xa xb hx => ?_) ⟨?_, upd_same, by rw [upd_ne hpb, upd_same]; rfl, hab, fr hp ha, fr hp hb⟩
    · rw [upd_ne xb, upd_ne (fr hp hx)]
      exact hx
    · rw [upd_ne hab, upd_ne (fr hp ha)]
      exact ha

theorem prd_rel {α β : Type} {R : α → β → Prop} : ∀ {xs : List α} {ys : List β} {i : Nat} {x : α} {y : β}, Paired R xs ys → xs[i]? = some x → ys[i]? = some y → R x y
  | _, _, i, x, y, .nil, h, _ => by simp at h
  | _, _, 0, x, y, .cons r _, h1, h2 => by
    have e1 := Option.some.inj h1
    have e2 := Option.some.inj h2
    rw [← e1, ← e2]
    exact r
  | _, _, i + 1, x, y, .cons _ t, h1, h2 => prd_rel t (by simpa using h1) (by simpa using h2)
def spKeyWeight (K : PySem.W.Frag) : Sp := fun vs H Q _ => ∃ kv k, vs = [kv] ∧ KeyAt K H kv k ∧ k.ok ∧ Q (.int k.wt) H
theorem ok_key_weight (T : Txt K mg w) : FnOk P w K mg base CX0 1 T.f_key_weight.f T.f_key_weight.fd ["key"] (spKeyWeight K) := by
  refine T.f_key_weight.F.ok sc_key_weight (fun vs H Q E h => ?_) (fun cdv A outer s H vs Q E hr h => ?_)
  · obtain ⟨kv, k, rfl, _⟩ := h
    rfl
  obtain ⟨kv, k, rfl, ⟨u, rfl, hk⟩, hok, q⟩ := h
  refine ⟨_, (pss_cons (ps_if (pt_cmpR op_eq (pe_ix ix_seq (pv 0) pe_int (fun _ _ => rfl)) pe_str (nomark _)) (pss_one (ps_ret pe_int)) pss_nil)
      (pss_cons (ps_if (pt_cmpR op_eq (pe_ix ix_seq (pv 0) pe_int (fun _ _ => rfl)) pe_str (nomark _)) (pss_one (ps_ret (pe_callB (call_lenK K) (by rfl) T.b_len (by decide +kernel) (pa_cons (pe_ix ix_seq (pv 0) pe_int (fun _ _ => rfl)) pa_nil)))) pss_nil)
      (pss_one (ps_ret (pe_ix ix_seq (pv 0) pe_int (fun _ _ => rfl)))))), ?_⟩
  walk_at "rd"
  cases k with
  | write w => exact ⟨_, rfl, ix_row hk (at_ofA (j := 0) rfl rfl) ⟨rfl, st_no (by decide) ⟨_, rfl, ix_row hk (at_ofA (j := 0) rfl rfl) ⟨rfl, st_yes ⟨_, rfl, ix_row hk (at_ofA (j := 1) rfl rfl) (len_tx (Nat.le_trans hok.2.1 (by decide)) q)⟩⟩⟩⟩⟩
  | paste => exact ⟨_, rfl, ix_row hk (at_ofA (j := 0) rfl rfl) ⟨rfl, st_yes q⟩⟩
  | left n | right n | strike n | rub n | copy n | cut n => exact ⟨_, rfl, ix_row hk (at_ofA (j := 0) rfl rfl) ⟨rfl, st_no (by decide) ⟨_, rfl, ix_row hk (at_ofA (j := 0) rfl rfl) ⟨rfl, st_no (by decide) ⟨_, rfl, ix_row hk (at_ofA (j := 1) rfl rfl) q⟩⟩⟩⟩⟩
def spWeigh (K : PySem.W.Frag) : Sp := fun vs H Q _ => ∃ hv ks, vs = [hv] ∧ HandAt K H hv ks ∧ (∀ k ∈ ks, k.ok) ∧ ks.length ≤ 60 ∧ ∀ H', Same H H' → Q (.int (hwt ks : Nat)) H'
theorem hwt_sum : ∀ ks : List Ky, (ks.map fun k => (k.wt : Int)).sum = (hwt ks : Nat)
  | [] => rfl
  | k :: ks => by
    rw [List.map_cons, List.sum_cons, hwt_sum ks, hwt_cons]
    omega
theorem ok_weigh (T : Txt K mg w) : FnOk P w K mg base CX0 2 T.f_weigh.f T.f_weigh.fd ["keys"] (spWeigh K) := by
  refine T.f_weigh.F.ok sc_weigh (fun vs H Q E h => ?_) (fun cdv A outer s H vs Q E hr h => ?_)
  · obtain ⟨hv, ks, rfl, _⟩ := h
    rfl
  obtain ⟨hv, ks, rfl, ⟨a, xs, rfl, hrow, hp⟩, hok, hl, q⟩ := h
  refine ⟨_, (pss_one (ps_ret (pe_callB (cr_sum rfl) (by rfl) T.b_sum (by decide +kernel) (pa_cons (pe_lc (own := [("key", 1)]) rfl sc_weigh.nd (pi_seq (pv 0)) (blkOk_by (own := [("key", 1)]) (N := N_weigh) (sc := defScope s_weigh) (by decide +kernel)) (fun _ _ _ _ _ => (pg_name (i := 1) sc_weigh.nd rfl (.inl rfl))) (fun _ _ _ _ _ => pts_nil) (fun _ _ _ _ _ => (pe_call (ok_key_weight T) (hr.mono (by decide)) (by rfl) T.f_key_weight.g T.f_key_weight.F.kp T.f_key_weight.b .nil pass0 (pa_cons (pv 1) pa_nil)))) pa_nil)))), ?_⟩
  walk_at "rd"
  have hlen : xs.length = ks.length := prd_len hp
  refine lc_rowN (a := a) (xs := xs) (ys := (ks.map fun k => (k.wt : Int)).map V.int) rfl hrow (by rw [List.length_map, List.length_map]; exact hlen) ?_ (fun _ => rfl) (fun _ _ _ h => h) (fun i x y H' hx hy s1 R hR => ?_) (fun D H' s1 nD hD => ?_)
  · rw [List.length_map, List.length_map]
    exact Nat.lt_of_le_of_lt hl (by decide)
  · obtain ⟨k, hk, r⟩ := prd_at hp hx
    rw [List.getElem?_map, List.getElem?_map, hk] at hy
    have hy := Option.some.inj hy
    subst hy
    exact ⟨_, rfl, x, k, rfl, r.same s1, hok k (List.mem_of_getElem? hk), hR _ (Same.refl _)⟩
  · refine ⟨D, _, rfl, SqL.of hD, ?_⟩
    rw [hwt_sum]
    exact q _ s1

/-! ## hands, of any things -/
@[irreducible] def nm (z : Str) : List Nat := z.cps.toList
theorem tx_nm (z : Str) : tx (nm z) = z := by unfold nm; rw [tx_of]
def isS (z : Str) (d : Dt) : Bool := match d with
  | .str w => decide (w = nm z)
  | _ => false
def sideNames : List Str := ["left", "rub", "right", "strike", "copy", "cut"]
def isKeyD (d : Dt) : Bool := isRow d && (match d.items with
  | [] => false
  | x :: r => isPlain x && (if isS "paste" x then r.isEmpty else match r with
    | [y] => if isS "write" x then isWord y else (sideNames.any fun z => isS z x) && isWhole y 1
    | _ => false))
def wtOf (d : Dt) : Nat := match d.items with
  | [_, .str w] => w.length
  | [_, .int n] => n.toNat
  | _ => 1
theorem str_nm {x : List Nat} {z : Str} : decide (V.str (tx x) = V.str z) = decide (x = nm z) := by
  rw [decide_eq_decide]
  constructor
  · intro h
    have := V.str.inj h
    rw [← this]
    unfold nm
    rw [tx_cps]
  · intro h
    rw [h, tx_nm]
theorem isS_of {z : Str} {w : List Nat} (h : isS z (.str w) = true) : w = nm z := of_decide_eq_true h
theorem word_of {x : List Nat} (h : isWord (.str x) = true) : Word x := by
  replace h : ((x.all (alpha.contains ·) && decide (x.length ≤ 60)) && decide (x ≠ [])) = true := h
  simp only [Bool.and_eq_true, decide_eq_true_eq] at h
  exact ⟨h.1.1, h.2, h.1.2⟩
theorem key_of {K : PySem.W.Frag} {H : Hp} {v : V} {d : Dt} (h : isKeyD d = true) (hv : At K H v d) : ∃ k, KeyAt K H v k ∧ k.ok ∧ k.wt = wtOf d := by
  unfold isKeyD at h
  rw [Bool.and_eq_true] at h
  obtain ⟨hr, h⟩ := h
  obtain ⟨a, xs, rfl, hrow, hit⟩ := at_row hv hr
  revert h hit
  unfold wtOf
  generalize d.items = ds
  intro h hit
  match ds, h, hit with
  | .str w :: r, h, hit =>
    rw [Bool.and_eq_true] at h
    obtain ⟨hp, h⟩ := h
    unfold Ats at hit
    obtain ⟨u, us, rfl, hu, hus⟩ := hit
    unfold At at hu
    obtain ⟨rfl, hl⟩ := hu
    by_cases e : isS "paste" (.str w) = true
    · rw [if_pos e] at h
      match r, h, hus with
      | [], _, hus =>
        unfold Ats at hus
        subst hus
        have e2 := isS_of e
        clear e
        subst e2
        rw [tx_nm] at hrow
        exact ⟨.paste, ⟨a, rfl, hrow⟩, trivial, rfl⟩
    · rw [if_neg e] at h
      match r, h, hus with
      | [y], h, hus =>
        replace h : (if isS "write" (.str w) then isWord y else (sideNames.any fun z => isS z (.str w)) && isWhole y 1) = true := h
        unfold Ats at hus
        obtain ⟨u2, us2, rfl, hu2, hus2⟩ := hus
        unfold Ats at hus2
        subst hus2
        by_cases e2 : isS "write" (.str w) = true
        · rw [if_pos e2] at h
          have e3 := isS_of e2
          clear e2 e
          subst e3
          obtain ⟨x, rfl⟩ : ∃ x, y = .str x := by
            cases y with
            | str x => exact ⟨x, rfl⟩
            | _ => cases h
          have hw := word_of h
          unfold At at hu2
          obtain ⟨rfl, _⟩ := hu2
          rw [tx_nm] at hrow
          exact ⟨.write x, ⟨a, rfl, hrow⟩, ⟨hw.2.1, hw.2.2, hw.1⟩, rfl⟩
        · rw [if_neg e2, Bool.and_eq_true] at h
          obtain ⟨h1, h2⟩ := h
          obtain ⟨n, rfl⟩ : ∃ n, y = .int n := by
            cases y with
            | int n => exact ⟨n, rfl⟩
            | _ => cases h2
          unfold At at hu2
          subst hu2
          have hn : 1 ≤ n := of_decide_eq_true h2
          have hn2 : n = ((n.toNat : Nat) : Int) := by omega
          simp only [sideNames, List.any_cons, List.any_nil, Bool.or_false, Bool.or_eq_true] at h1
          have n1 : 1 ≤ n.toNat := by omega
          have key : ∀ z : Str, isS z (.str w) = true → Row K H a [.str z, .int (n.toNat : Nat)] := fun z hz => by
            have e3 := isS_of hz
            rw [e3, tx_nm, hn2] at hrow
            exact hrow
          clear e e2
          rcases h1 with h1 | h1 | h1 | h1 | h1 | h1
          · exact ⟨.left n.toNat, ⟨a, rfl, key _ h1⟩, n1, rfl⟩
          · exact ⟨.rub n.toNat, ⟨a, rfl, key _ h1⟩, n1, rfl⟩
          · exact ⟨.right n.toNat, ⟨a, rfl, key _ h1⟩, n1, rfl⟩
          · exact ⟨.strike n.toNat, ⟨a, rfl, key _ h1⟩, n1, rfl⟩
          · exact ⟨.copy n.toNat, ⟨a, rfl, key _ h1⟩, n1, rfl⟩
          · exact ⟨.cut n.toNat, ⟨a, rfl, key _ h1⟩, n1, rfl⟩
theorem keys_of {K : PySem.W.Frag} {H : Hp} : ∀ {vs : List V} {ds : List Dt}, Ats K H vs ds → (∀ d ∈ ds, isKeyD d = true) → ∃ ks, Paired (KeyAt K H) vs ks ∧ (∀ k ∈ ks, k.ok) ∧ hwt ks = (ds.map wtOf).sum
  | vs, [], h, _ => by
    unfold Ats at h
    subst h
    exact ⟨[], .nil, (fun k hk => nomatch hk), rfl⟩
  | vs, d :: ds, h, hd => by
    unfold Ats at h
    obtain ⟨v, us, rfl, h1, h2⟩ := h
    obtain ⟨k, k1, k2, k3⟩ := key_of (hd d (List.mem_cons_self ..)) h1
    obtain ⟨ks, p, o, e⟩ := keys_of h2 fun x hx => hd x (List.mem_cons_of_mem _ hx)
    refine ⟨k :: ks, .cons k1 p, fun x hx => ?_, by rw [hwt_cons, List.map_cons, List.sum_cons, k3, e]⟩
    rcases List.mem_cons.mp hx with rfl | hx
    · exact k2
    · exact o x hx
def isHandD (d : Dt) : Bool := isRow d && decide (d.items.length ≤ 60) && d.items.all isKeyD && decide ((d.items.map wtOf).sum ≤ 60)
def hWt (d : Dt) : Nat := (d.items.map wtOf).sum
theorem hand_of {K : PySem.W.Frag} {H : Hp} {v : V} {d : Dt} (h : isHandD d = true) (hv : At K H v d) : ∃ ks, HandAt K H v ks ∧ GoodH ks ∧ hwt ks = hWt d := by
  unfold isHandD at h
  simp only [Bool.and_eq_true, decide_eq_true_eq] at h
  obtain ⟨a, xs, rfl, hrow, hit⟩ := at_row hv h.1.1.1
  obtain ⟨ks, p, o, e⟩ := keys_of hit (List.all_eq_true.mp h.1.2)
  exact ⟨ks, ⟨a, xs, rfl, hrow, p⟩, ⟨o, by rw [e]; exact h.2⟩, e⟩
theorem iteN {A B : Prop} {b : Bool} (h : b = false) (q : B) : (if b = true then A else B) := by rw [h, if_neg Bool.false_ne_true]; exact q
theorem iteY {A B : Prop} {b : Bool} (h : b = true) (q : A) : (if b = true then A else B) := by rw [h, if_pos rfl]; exact q
theorem ok_is_key (T : Txt K mg w) : FnOk P w K mg base CX0 4 T.f_is_key.f T.f_is_key.fd ["thing"] (spIsPiece isKeyD K) := by
  refine T.f_is_key.F.ok sc_is_key (fun vs H Q E h => ?_) (fun cdv A outer s H vs Q E hr h => ?_)
  · obtain ⟨v, d, rfl, _⟩ := h
    rfl
  obtain ⟨v, d, rfl, hv, q⟩ := h
  refine ⟨_, (pss_cons (ps_if (PW.pt (pw_or (pt_not (pt_val (pe_call (ok_is_row T) (hr.mono (by decide)) (by rfl) T.f_is_row.g T.f_is_row.F.kp T.f_is_row.b .nil pass0 (pa_cons (pv 0) pa_nil)))) (pw_or (pt_cmpR op_eq (pe_callB (call_lenK K) (by rfl) T.b_len (by decide +kernel) (pa_cons (pv 0) pa_nil)) pe_int (nomark _)) (pw_or1 (pt_not (pt_val (pe_call (ok_is_plain T) (hr.mono (by decide)) (by rfl) T.f_is_plain.g T.f_is_plain.F.kp T.f_is_plain.b .nil pass0 (pa_cons (pe_ix ix_seq (pv 0) pe_int (fun _ _ => rfl)) pa_nil)))))))) (pss_one (ps_ret pe_bl)) pss_nil)
      (pss_cons (ps_if (pt_cmpR op_eq (pe_ix ix_seq (pv 0) pe_int (fun _ _ => rfl)) pe_str (nomark _)) (pss_one (ps_ret (pe_cmpR op_eq (pe_callB (call_lenK K) (by rfl) T.b_len (by decide +kernel) (pa_cons (pv 0) pa_nil)) pe_int (nomark _)))) pss_nil)
      (pss_cons (ps_if (pt_cmpR op_ne (pe_callB (call_lenK K) (by rfl) T.b_len (by decide +kernel) (pa_cons (pv 0) pa_nil)) pe_int (nomark _)) (pss_one (ps_ret pe_bl)) pss_nil)
      (pss_cons (ps_if (pt_cmpR op_eq (pe_ix ix_seq (pv 0) pe_int (fun _ _ => rfl)) pe_str (nomark _)) (pss_one (ps_ret (pe_call (ok_is_word T) (hr.mono (by decide)) (by rfl) T.f_is_word.g T.f_is_word.F.kp T.f_is_word.b .nil pass0 (pa_cons (pe_ix ix_seq (pv 0) pe_int (fun _ _ => rfl)) pa_nil)))) pss_nil)
      (pss_one (ps_ret (pe_and (pe_cmpR (op_in_sd T.c_SIDES) (pe_ix ix_seq (pv 0) pe_int (fun _ _ => rfl)) (pe_sd T.c_SIDES (by rfl) (by decide)) (by rfl)) (pe_one (pe_call (ok_is_whole T) (hr.mono (by decide)) (by rfl) T.f_is_whole.g T.f_is_whole.F.kp T.f_is_whole.b .nil pass0 (pa_cons (pe_ix ix_seq (pv 0) pe_int (fun _ _ => rfl)) (pa_cons pe_int pa_nil))))))))))), ?_⟩
  walk_at "rd"
  refine ⟨v, rfl, v, d, rfl, hv, fun H1 s1 => ⟨_, rfl, ?_⟩⟩
  have q := q H1 s1
  unfold isKeyD at q
  cases hrw : isRow d with
  | false =>
    rw [hrw] at q
    exact iteY rfl (iteY rfl q)
  | true =>
    rw [hrw, Bool.true_and] at q
    obtain ⟨a, xs, rfl, hrow, hit⟩ := at_row (At.same s1 _ _ hv) hrw
    have hlen := hit.len
    refine iteN rfl ⟨_, rfl, len_row hrow ⟨rfl, _, rfl, ?_⟩⟩
    revert q hit hlen
    generalize d.items = ds
    intro q hit hlen
    cases ds with
    | nil =>
      rw [show (decide (V.int (xs.length : Int) = V.int 0)) = true by rw [hlen]; exact decide_eq_true rfl]
      exact iteY rfl (iteY rfl q)
    | cons x r =>
      rw [show (decide (V.int (xs.length : Int) = V.int 0)) = false by rw [hlen]; exact decide_eq_false fun z => by have := V.int.inj z; rw [List.length_cons] at this; omega]
      unfold Ats at hit
      obtain ⟨u, us, rfl, hu, hus⟩ := hit
      have hul := hus.len
      refine iteN rfl ⟨_, rfl, ix_row hrow (atI_nat (j := 0) rfl) ⟨u, x, rfl, hu, _, rfl, ?_⟩⟩
      dsimp only at q
      cases hp : isPlain x with
      | false =>
        rw [hp] at q
        exact iteY rfl q
      | true =>
        rw [hp, Bool.true_and] at q
        obtain ⟨z, rfl, _⟩ := plain_str hp
        unfold At at hu
        obtain ⟨rfl, hzl⟩ := hu
        have hs : ∀ t : Str, decide (V.str (tx z) = V.str t) = isS t (.str z) := fun t => str_nm
        refine iteN rfl ⟨_, rfl, ix_row hrow (atI_nat (j := 0) rfl) ⟨rfl, _, rfl, ?_⟩⟩
        rw [hs]
        cases e1 : isS "paste" (.str z) with
        | true =>
          rw [e1] at q
          refine iteY rfl ⟨_, rfl, len_row hrow ?_⟩
          refine ⟨rfl, ?_⟩
          rw [show decide (V.int (((V.str (tx z)) :: us).length : Int) = V.int 1) = r.isEmpty by
            rw [List.length_cons, hul]
            cases r with
            | nil => exact decide_eq_true rfl
            | cons y r => exact decide_eq_false fun z => by have := V.int.inj z; rw [List.length_cons] at this; omega]
          exact q
        | false =>
          rw [e1] at q
          refine iteN rfl ⟨_, rfl, len_row hrow ⟨rfl, _, rfl, ?_⟩⟩
          cases r with
          | nil =>
            rw [show (!decide (V.int (((V.str (tx z)) :: us).length : Int) = V.int 2)) = true by
              rw [List.length_cons, hul]
              rfl]
            exact iteY rfl q
          | cons y r =>
            cases r with
            | cons y2 r =>
              rw [show (!decide (V.int (((V.str (tx z)) :: us).length : Int) = V.int 2)) = true by
                rw [List.length_cons, hul, decide_eq_false (fun z => by have := V.int.inj z; rw [List.length_cons, List.length_cons] at this; omega)]
                rfl]
              exact iteY rfl q
            | nil =>
              rw [show (!decide (V.int (((V.str (tx z)) :: us).length : Int) = V.int 2)) = false by
                rw [List.length_cons, hul]
                rfl]
              unfold Ats at hus
              obtain ⟨u2, us2, rfl, hu2, _⟩ := hus
              replace q : Q (V.bl (if isS "write" (.str z) then isWord y else (sideNames.any fun t => isS t (.str z)) && isWhole y 1)) H1 := q
              refine iteN rfl ⟨_, rfl, ix_row hrow (atI_nat (j := 0) rfl) ⟨rfl, _, rfl, ?_⟩⟩
              rw [hs]
              cases e2 : isS "write" (.str z) with
              | true =>
                rw [e2, if_pos rfl] at q
                exact iteY rfl ⟨_, rfl, ix_row hrow (atI_nat (j := 1) rfl) ⟨u2, y, rfl, hu2, q⟩⟩
              | false =>
                rw [e2, if_neg Bool.false_ne_true] at q
                refine iteN rfl ⟨_, rfl, ix_row hrow (atI_nat (j := 0) rfl) ⟨tx z, rfl, rfl, _, rfl, ?_⟩⟩
                have hlk : ∀ (zs : List Str) (f : Str → Str), (List.lookup (tx z) (zs.map fun t => (t, f t))).isSome = zs.any fun t => isS t (.str z) := by
                  intro zs f
                  induction zs with
                  | nil => rfl
                  | cons t zs ih =>
                    rw [List.map_cons, List.any_cons, ← hs t]
                    by_cases e : tx z = t
                    · rw [show decide (V.str (tx z) = V.str t) = true from decide_eq_true (by rw [e]), Bool.true_or, List.lookup_cons, beq_iff_eq.mpr e]
                      rfl
                    · rw [show decide (V.str (tx z) = V.str t) = false from decide_eq_false (fun h => e (V.str.inj h)), Bool.false_or, ← ih, List.lookup_cons, beq_eq_false_iff_ne.mpr e]
                have hl := hlk sideNames fun t => if t = ("left" : Str) ∨ t = ("rub" : Str) then "left" else "right"
                have e4 : (sideNames.map fun t : Str => (t, (if t = ("left" : Str) ∨ t = ("rub" : Str) then "left" else "right" : Str))) = [(("left" : Str), ("left" : Str)), ("rub", "left"), ("right", "right"), ("strike", "right"), ("copy", "right"), ("cut", "right")] := by decide +kernel
                rw [e4] at hl
                rw [hl]
                cases e5 : sideNames.any fun t => isS t (.str z) with
                | false =>
                  rw [e5] at q
                  exact iteN rfl q
                | true =>
                  rw [e5, Bool.true_and] at q
                  exact iteY rfl ⟨_, rfl, ix_row hrow (atI_nat (j := 1) rfl) ⟨u2, y, 1, rfl, hu2, q⟩⟩
theorem ok_is_hand (T : Txt K mg w) : FnOk P w K mg base CX0 5 T.f_is_hand.f T.f_is_hand.fd ["thing"] (spIsPiece isHandD K) := by
  refine T.f_is_hand.F.ok sc_is_hand (fun vs H Q E h => ?_) (fun cdv A outer s H vs Q E hr h => ?_)
  · obtain ⟨v, d, rfl, _⟩ := h
    rfl
  obtain ⟨v, d, rfl, hv, q⟩ := h
  refine ⟨_, (pss_cons (ps_if (PW.pt (pw_or (pt_not (pt_val (pe_call (ok_is_row T) (hr.mono (by decide)) (by rfl) T.f_is_row.g T.f_is_row.F.kp T.f_is_row.b .nil pass0 (pa_cons (pv 0) pa_nil)))) (pw_or1 (pt_cmpR op_gt (pe_callB (call_lenK K) (by rfl) T.b_len (by decide +kernel) (pa_cons (pv 0) pa_nil)) (pe_c_HEAVIEST T) (nomark _))))) (pss_one (ps_ret pe_bl)) pss_nil)
      (pss_one (ps_ret (pe_and (pe_callB (cr_all rfl) (by rfl) T.b_all (by decide +kernel) (pa_cons (pe_lc (own := [("key", 1)]) rfl sc_is_hand.nd (pi_seq (pv 0)) (blkOk_by (own := [("key", 1)]) (N := N_is_hand) (sc := defScope s_is_hand) (by decide +kernel)) (fun _ _ _ _ _ => (pg_name (i := 1) sc_is_hand.nd rfl (.inl rfl))) (fun _ _ _ _ _ => pts_nil) (fun _ _ _ _ _ => (pe_call (ok_is_key T) (hr.mono (by decide)) (by rfl) T.f_is_key.g T.f_is_key.F.kp T.f_is_key.b .nil pass0 (pa_cons (pv 1) pa_nil)))) pa_nil)) (pe_one (pe_cmpR op_le (pe_call (ok_weigh T) (hr.mono (by decide)) (by rfl) T.f_weigh.g T.f_weigh.F.kp T.f_weigh.b .nil pass0 (pa_cons (pv 0) pa_nil)) (pe_c_HEAVIEST T) (nomark _))))))), ?_⟩
  walk_at "rd"
  refine ⟨v, rfl, v, d, rfl, hv, fun H1 s1 => ⟨_, rfl, ?_⟩⟩
  cases hrw : isRow d with
  | false =>
    have q := q H1 s1
    unfold isHandD at q
    rw [hrw] at q
    exact iteY rfl (iteY rfl q)
  | true =>
    obtain ⟨a, xs, rfl, hrow, hit⟩ := at_row (At.same s1 _ _ hv) hrw
    have hlen := hit.len
    refine iteN rfl ⟨_, rfl, len_row hrow ⟨_, _, rfl, rfl, _, rfl, ?_⟩⟩
    cases hl : decide (d.items.length ≤ 60) with
    | false =>
      have q := q H1 s1
      unfold isHandD at q
      rw [hrw, hl] at q
      have := of_decide_eq_false hl
      exact iteY (decide_eq_true (by omega)) q
    | true =>
      have h60 := of_decide_eq_true hl
      refine iteN (decide_eq_false (by omega)) ?_
      refine lc_rowN (a := a) (xs := xs) (ys := (d.items.map isKeyD).map V.bl) rfl hrow (by rw [List.length_map, List.length_map]; exact hlen) ?_ (fun _ => rfl) (fun _ _ _ h => h) (fun i x y H' hx hy s2 R hR => ?_) (fun D H' s2 _ hD => ?_)
      · rw [List.length_map, List.length_map]
        exact Nat.lt_of_le_of_lt h60 (by decide)
      · obtain ⟨c, hc, ac⟩ := hit.at hx
        rw [List.getElem?_map, List.getElem?_map, hc] at hy
        have hy := Option.some.inj hy
        subst hy
        exact ⟨_, rfl, x, c, rfl, At.same s2 _ _ ac, fun H4 s4 => hR _ s4⟩
      · refine ⟨D, _, rfl, SqL.of hD, _, rfl, ?_⟩
        have ea : (List.map isKeyD d.items).all id = d.items.all isKeyD := by rw [List.all_map]; rfl
        rw [ea]
        cases hk : d.items.all isKeyD with
        | false =>
          have q := q H' (s1.trans s2)
          unfold isHandD at q
          rw [hrw, hl, hk] at q
          exact iteN rfl q
        | true =>
          obtain ⟨ks, p, o, e⟩ := keys_of (Ats.same s2 _ _ hit) (List.all_eq_true.mp hk)
          have hkl := prd_len p
          refine iteY rfl ⟨_, rfl, _, ks, rfl, ⟨a, xs, rfl, hrow.same s2, p⟩, o, by omega, fun H3 s3 => ⟨_, _, rfl, rfl, ?_⟩⟩
          have q := q H3 ((s1.trans s2).trans s3)
          unfold isHandD at q
          rw [hrw, hl, hk, Bool.true_and, Bool.true_and, Bool.true_and] at q
          rw [e]
          have : decide ((((d.items.map wtOf).sum : Nat) : Int) ≤ 60) = decide ((d.items.map wtOf).sum ≤ 60) := by
            rw [decide_eq_decide]
            omega
          show Q (V.bl (decide ((((d.items.map wtOf).sum : Nat) : Int) ≤ 60))) H3
          rw [this]
          exact q
/-- what a check promises: D is the class of what it raises -/
def spChk (f : Dt → Bool) (D : Addr) (K : PySem.W.Frag) : Sp := fun vs H Q E => ∃ v d, vs = [v] ∧ At K H v d ∧ ∀ H', Same H H' → (f d = true → Q .non H') ∧ (f d = false → E (.ref D) none H')
theorem ok_check_hand (T : Txt K mg w) : FnOk P w K mg base (L2.CX P w) 6 T.f_check_hand.f T.f_check_hand.fd ["thing"] (spChk isHandD T.x_NoHand.C K) := by
  refine T.f_check_hand.F.okX sc_check_hand (fun vs H Q E h => ?_) (fun cdv A outer s H vs Q E hr h => ?_)
  · obtain ⟨v, d, rfl, _⟩ := h
    rfl
  obtain ⟨v, d, rfl, hv, q⟩ := h
  refine ⟨_, (pss_one (ps_if (pt_not (pt_val (pe_call (ok_is_hand T) (hr.mono (by decide)) (by rfl) T.f_is_hand.g T.f_is_hand.F.kp T.f_is_hand.b .nil pass0 (pa_cons (pv 0) pa_nil)))) (pss_one (ps_raise rfl (takes_of rfl rfl rfl rfl) (pmk_own PySem.F.excBase_ValueError T.r_NoHand.q T.x_NoHand.g T.x_NoHand.k T.r_NoHand.rz rfl))) pss_nil)), ?_⟩
  walk_at "rd"
  refine ⟨v, rfl, v, d, rfl, hv, fun H1 s1 => ⟨_, rfl, ?_⟩⟩
  cases ht : isHandD d with
  | true => exact iteN rfl ((q _ s1).1 ht)
  | false => exact iteY rfl ((q _ s1).2 ht)
/-- a hand's weight, or a refusal -/
def spWeightX (D : Addr) (K : PySem.W.Frag) : Sp := fun vs H Q E => ∃ v d, vs = [v] ∧ At K H v d ∧ ∀ H', Same H H' → (isHandD d = true → Q (.int (hWt d : Nat)) H') ∧ (isHandD d = false → E (.ref D) none H')
theorem ok_weight (T : Txt K mg w) : FnOk P w K mg base (L2.CX P w) 7 T.f_weight.f T.f_weight.fd ["hand"] (spWeightX T.x_NoHand.C K) := by
  refine T.f_weight.F.okX sc_weight (fun vs H Q E h => ?_) (fun cdv A outer s H vs Q E hr h => ?_)
  · obtain ⟨v, d, rfl, _⟩ := h
    rfl
  obtain ⟨v, d, rfl, hv, q⟩ := h
  refine ⟨_, (pss_cons (ps_expr (pe_call (ok_check_hand T) (hr.mono (by decide)) (by rfl) T.f_check_hand.g T.f_check_hand.F.kp T.f_check_hand.b .nil (passes_call (takes_of rfl rfl rfl rfl) fun _ _ _ _ h => h) (pa_cons (pv 0) pa_nil)))
      (pss_one (ps_ret (pe_call (ok_weigh T) (hr.mono (by decide)) (by rfl) T.f_weigh.g T.f_weigh.F.kp T.f_weigh.b .nil pass0 (pa_cons (pv 0) pa_nil))))), ?_⟩
  walk_at "rd"
  refine ⟨v, rfl, v, d, rfl, hv, fun H1 s1 => ⟨fun ht => ?_, fun ht => (q _ s1).2 ht⟩⟩
  obtain ⟨ks, hh, gk, e⟩ := hand_of ht (At.same s1 _ _ hv)
  refine ⟨v, rfl, v, ks, rfl, hh, gk.ok, gk.few, fun H2 s2 => ?_⟩
  rw [e]
  exact (q _ (s1.trans s2)).1 ht
/-! ## keys as things -/
def Ky.kn : Ky → Str
  | .write _ => "write"
  | .paste => "paste"
  | .left _ => "left"
  | .right _ => "right"
  | .strike _ => "strike"
  | .rub _ => "rub"
  | .copy _ => "copy"
  | .cut _ => "cut"
theorem kn_names : ∀ z ∈ (["write", "paste", "left", "right", "strike", "rub", "copy", "cut"] : List Str), (nm z).all (alpha.contains ·) = true ∧ (nm z).length ≤ 10 := by decide +kernel
theorem kn_plain (k : Ky) : (nm k.kn).all (alpha.contains ·) = true ∧ (nm k.kn).length ≤ 1000000 := by
  have h := kn_names k.kn (by cases k <;> simp [Ky.kn])
  exact ⟨h.1, Nat.le_trans h.2 (by decide)⟩
def kD : Ky → List Dt
  | .write w => [.str (nm "write"), .str w]
  | .paste => [.str (nm "paste")]
  | .left n => [.str (nm "left"), .int n]
  | .right n => [.str (nm "right"), .int n]
  | .strike n => [.str (nm "strike"), .int n]
  | .rub n => [.str (nm "rub"), .int n]
  | .copy n => [.str (nm "copy"), .int n]
  | .cut n => [.str (nm "cut"), .int n]
theorem at_str {K : PySem.W.Frag} {H : Hp} (z : Str) (h : (nm z).length ≤ 1000000) : At K H (.str z) (.str (nm z)) := by
  unfold At
  exact ⟨by unfold nm; rw [tx_of], h⟩
theorem ats_key {K : PySem.W.Frag} {H : Hp} (k : Ky) (hk : k.ok) : Ats K H k.vs (kD k) := by
  have h1 := (kn_plain k).2
  have hi : ∀ n : Nat, At K H (.int n) (.int n) := fun n => by unfold At; rfl
  have h0 : Ats K H [] [] := by unfold Ats; rfl
  have h2 : ∀ {v u : V} {c d : Dt}, At K H v c → At K H u d → Ats K H [v, u] [c, d] := fun a b => by
    unfold Ats
    refine ⟨_, _, rfl, a, ?_⟩
    unfold Ats
    exact ⟨_, _, rfl, b, h0⟩
  cases k with
  | write w => exact h2 (at_str "write" h1) (by unfold At; exact ⟨rfl, Nat.le_trans hk.2.1 (by decide)⟩)
  | paste =>
    show Ats K H [.str "paste"] [.str (nm "paste")]
    unfold Ats
    exact ⟨_, _, rfl, at_str "paste" h1, h0⟩
  | left n => exact h2 (at_str "left" h1) (hi n)
  | right n => exact h2 (at_str "right" h1) (hi n)
  | strike n => exact h2 (at_str "strike" h1) (hi n)
  | rub n => exact h2 (at_str "rub" h1) (hi n)
  | copy n => exact h2 (at_str "copy" h1) (hi n)
  | cut n => exact h2 (at_str "cut" h1) (hi n)
theorem vs_0 : ∀ k : Ky, k.vs[0]? = some (.str k.kn)
  | .write _ | .paste | .left _ | .right _ | .strike _ | .rub _ | .copy _ | .cut _ => rfl
theorem isS_nm : ∀ z ∈ (["write", "paste", "left", "right", "strike", "rub", "copy", "cut"] : List Str), ∀ y ∈ (["write", "paste", "left", "right", "strike", "rub", "copy", "cut"] : List Str), isS z (.str (nm y)) = decide (z = y) := by decide +kernel
theorem word_ok {w : List Nat} (h1 : w ≠ []) (h2 : w.length ≤ 60) (h3 : Plain w) : isWord (.str w) = true := by
  show ((w.all (alpha.contains ·) && decide (w.length ≤ 60)) && decide (w ≠ [])) = true
  rw [show w.all (alpha.contains ·) = true from h3, decide_eq_true h2, decide_eq_true h1]
  rfl
theorem key_side {y : Str} (hy : y ∈ sideNames) {n : Nat} (hn : 1 ≤ n) : isKeyD (.tup [.str (nm y), .int (n : Int)]) = true := by
  have hm : y ∈ (["write", "paste", "left", "right", "strike", "rub", "copy", "cut"] : List Str) := (by decide +kernel : ∀ z ∈ sideNames, z ∈ (["write", "paste", "left", "right", "strike", "rub", "copy", "cut"] : List Str)) y hy
  have e1 : isS "paste" (.str (nm y)) = false := by rw [isS_nm _ (by simp) _ hm]; exact decide_eq_false fun z => by subst z; revert hy; decide +kernel
  have e2 : isS "write" (.str (nm y)) = false := by rw [isS_nm _ (by simp) _ hm]; exact decide_eq_false fun z => by subst z; revert hy; decide +kernel
  have e3 : (sideNames.any fun z => isS z (.str (nm y))) = true := List.any_eq_true.mpr ⟨y, hy, by rw [isS_nm _ hm _ hm]; exact decide_eq_true rfl⟩
  show (isPlain (.str (nm y)) && (if isS "paste" (.str (nm y)) then [Dt.int (n : Int)].isEmpty else (if isS "write" (.str (nm y)) then isWord (.int (n : Int)) else (sideNames.any fun z => isS z (.str (nm y))) && isWhole (.int (n : Int)) 1))) = true
  rw [e1, e2, e3, show isPlain (.str (nm y)) = true from (kn_names y hm).1]
  show decide ((1 : Int) ≤ (n : Int)) = true
  exact decide_eq_true (by omega)
theorem key_kD {k : Ky} (hk : k.ok) : isKeyD (.tup (kD k)) = true ∧ wtOf (.tup (kD k)) = k.wt := by
  cases k with
  | write w =>
    refine ⟨?_, rfl⟩
    show (isPlain (.str (nm "write")) && (if isS "paste" (.str (nm "write")) then [Dt.str w].isEmpty else (if isS "write" (.str (nm "write")) then isWord (.str w) else (sideNames.any fun z => isS z (.str (nm "write"))) && isWhole (.str w) 1))) = true
    rw [isS_nm "paste" (by simp) "write" (by simp), isS_nm "write" (by simp) "write" (by simp), show isPlain (.str (nm "write")) = true from (kn_names "write" (by simp)).1, word_ok hk.1 hk.2.1 hk.2.2]
    rfl
  | paste =>
    refine ⟨?_, rfl⟩
    show (isPlain (.str (nm "paste")) && (if isS "paste" (.str (nm "paste")) then ([] : List Dt).isEmpty else false)) = true
    rw [isS_nm "paste" (by simp) "paste" (by simp), show isPlain (.str (nm "paste")) = true from (kn_names "paste" (by simp)).1]
    rfl
  | left n => exact ⟨key_side (by simp [sideNames]) hk, rfl⟩
  | right n => exact ⟨key_side (by simp [sideNames]) hk, rfl⟩
  | strike n => exact ⟨key_side (by simp [sideNames]) hk, rfl⟩
  | rub n => exact ⟨key_side (by simp [sideNames]) hk, rfl⟩
  | copy n => exact ⟨key_side (by simp [sideNames]) hk, rfl⟩
  | cut n => exact ⟨key_side (by simp [sideNames]) hk, rfl⟩
theorem hand_dH {ks : List Ky} (h : GoodH ks) : isHandD (.lst (ks.map fun k => .tup (kD k))) = true ∧ hWt (.lst (ks.map fun k => .tup (kD k))) = hwt ks := by
  have e : ((Dt.lst (ks.map fun k => .tup (kD k))).items.map wtOf).sum = hwt ks := by
    show ((ks.map fun k => Dt.tup (kD k)).map wtOf).sum = _
    rw [List.map_map]
    unfold hwt
    congr 1
    exact List.map_congr_left fun k hk => (key_kD (h.ok k hk)).2
  refine ⟨?_, e⟩
  unfold isHandD
  rw [e, decide_eq_true h.wt, show isRow (.lst (ks.map fun k => Dt.tup (kD k))) = true from rfl]
  rw [show decide ((Dt.lst (ks.map fun k => Dt.tup (kD k))).items.length ≤ 60) = true from decide_eq_true (by show (ks.map _).length ≤ 60; rw [List.length_map]; exact h.few)]
  rw [show (Dt.lst (ks.map fun k => Dt.tup (kD k))).items.all isKeyD = true from List.all_eq_true.mpr fun d hd => by
    obtain ⟨k, hk, rfl⟩ := List.mem_map.mp (show d ∈ ks.map fun k => Dt.tup (kD k) from hd)
    exact (key_kD (h.ok k hk)).1]
  rfl
theorem leafy {f : Dt → Bool} (h1 : ∀ ds, f (.lst ds) = false) (h2 : ∀ ds, f (.tup ds) = false) (d : Dt) : f (norm d) = f d := by
  cases d with
  | lst ds => simp only [norm, h1]
  | tup ds => simp only [norm, h1, h2]
  | _ => rfl
theorem key_norm (d : Dt) : isKeyD (norm d) = isKeyD d := by
  unfold isKeyD
  rw [row_norm, items_norm]
  congr 1
  cases d.items with
  | nil => rfl
  | cons x r =>
    have p1 := leafy (f := isPlain) (fun _ => rfl) (fun _ => rfl) x
    have p2 := fun z => leafy (f := isS z) (fun _ => rfl) (fun _ => rfl) x
    rw [List.map_cons]
    dsimp only
    rw [p1, p2]
    congr 2
    · cases r <;> rfl
    · cases r with
      | nil => rfl
      | cons y r =>
        cases r with
        | cons y2 r => rfl
        | nil =>
          show (if isS "write" (norm x) = true then isWord (norm y) else (sideNames.any fun z => isS z (norm x)) && isWhole (norm y) 1) = _
          rw [p2, leafy (f := isWord) (fun _ => rfl) (fun _ => rfl) y, leafy (f := fun d => isWhole d 1) (fun _ => rfl) (fun _ => rfl) y]
          simp only [p2]
theorem wt_norm (d : Dt) : wtOf (norm d) = wtOf d := by
  unfold wtOf
  rw [items_norm]
  rcases d.items with _ | ⟨x, _ | ⟨y, _ | ⟨z, r⟩⟩⟩
  · rfl
  · rfl
  · cases y <;> simp [norm]
  · cases y <;> simp [norm]
theorem hand_norm (d : Dt) : isHandD (norm d) = isHandD d ∧ hWt (norm d) = hWt d := by
  have e : (d.items.map norm).map wtOf = d.items.map wtOf := by
    rw [List.map_map]
    exact List.map_congr_left fun x _ => wt_norm x
  have e2 : (d.items.map norm).all isKeyD = d.items.all isKeyD := by
    rw [List.all_map]
    congr 1
    funext x
    exact key_norm x
  unfold isHandD hWt
  rw [row_norm, items_norm, e, e2, List.length_map]
  exact ⟨rfl, rfl⟩
theorem hand_like {d e : Dt} (h : norm e = norm d) : isHandD e = isHandD d ∧ hWt e = hWt d := by
  have h1 := hand_norm e
  have h2 := hand_norm d
  rw [h] at h1
  exact ⟨h1.1.symm.trans h2.1, h1.2.symm.trans h2.2⟩

/-! ### sheets -/
structure Sh where
  w : List Nat
  n : Nat
  k : List Nat
structure GoodS (s : Sh) : Prop where
  w : Plain s.w
  n : s.n ≤ s.w.length
  k : Plain s.k
  kl : s.k.length ≤ 60
  wl : s.w.length ≤ 1000000
def Sh.vs (s : Sh) : List V := [.str (tx s.w), .int s.n, .str (tx s.k)]
def SheetAt (K : PySem.W.Frag) (H : Hp) (v : V) (s : Sh) : Prop := ∃ a, v = .ref a ∧ Row K H a s.vs
theorem SheetAt.same {K : PySem.W.Frag} {H H' : Hp} {v : V} {s} (e : Same H H') (h : SheetAt K H v s) : SheetAt K H' v s := by
  obtain ⟨a, rfl, h⟩ := h
  exact ⟨a, rfl, h.same e⟩
/-! sheets of any things -/
def isSheetD (d : Dt) : Bool := isRow d && (match d.items with
  | [.str x, n, k] => isPlain (.str x) && (isWithin n 0 x.length && isClip k)
  | _ => false)
def strLen (d : Dt) : Nat := match d with
  | .str x => x.length
  | _ => 0
theorem sheet_of {K : PySem.W.Frag} {H : Hp} {v : V} {d : Dt} (h : isSheetD d = true) (hv : At K H v d) : ∃ s, SheetAt K H v s ∧ GoodS s ∧ d.items = [.str s.w, .int s.n, .str s.k] := by
  unfold isSheetD at h
  rw [Bool.and_eq_true] at h
  obtain ⟨hr, h⟩ := h
  obtain ⟨a, xs, rfl, hrow, hit⟩ := at_row hv hr
  revert h hit
  generalize d.items = ds
  intro h hit
  obtain ⟨x, n, k, rfl⟩ : ∃ x n k, ds = [.str x, .int n, .str k] := by
    rcases ds with _ | ⟨x, _ | ⟨n, _ | ⟨k, _ | ⟨y, r⟩⟩⟩⟩
    · cases h
    · cases x <;> cases h
    · cases x <;> cases h
    · cases x with
      | str x =>
        replace h : (isPlain (.str x) && (isWithin n 0 x.length && isClip k)) = true := h
        rw [Bool.and_eq_true, Bool.and_eq_true] at h
        obtain ⟨_, h2, h3⟩ := h
        cases n with
        | int n =>
          cases k with
          | str k => exact ⟨x, n, k, rfl⟩
          | _ => cases h3
        | _ => cases h2
      | _ => cases h
    · cases x <;> cases h
  replace h : (isPlain (.str x) && (isWithin (.int n) 0 x.length && isClip (.str k))) = true := h
  rw [Bool.and_eq_true, Bool.and_eq_true] at h
  obtain ⟨h1, h2, h3⟩ := h
  have h2 : (decide ((0 : Int) ≤ n) && decide (n ≤ (x.length : Int))) = true := h2
  have h3 : (k.all (alpha.contains ·) && decide (k.length ≤ 60)) = true := h3
  simp only [Bool.and_eq_true, decide_eq_true_eq] at h2 h3
  unfold Ats at hit
  obtain ⟨u1, us, rfl, a1, hit⟩ := hit
  unfold Ats at hit
  obtain ⟨u2, us, rfl, a2, hit⟩ := hit
  unfold Ats at hit
  obtain ⟨u3, us, rfl, a3, hit⟩ := hit
  unfold Ats at hit
  subst hit
  unfold At at a1 a2 a3
  obtain ⟨rfl, l1⟩ := a1
  subst a2
  obtain ⟨rfl, l3⟩ := a3
  have hn : n = ((n.toNat : Nat) : Int) := by omega
  refine ⟨⟨x, n.toNat, k⟩, ⟨a, rfl, ?_⟩, ⟨h1, by show n.toNat ≤ x.length; omega, h3.1, h3.2, l1⟩, ?_⟩
  · show Row K H a [.str (tx x), .int (n.toNat : Nat), .str (tx k)]
    rw [← hn]
    exact hrow
  · show [Dt.str x, .int n, .str k] = [Dt.str x, .int (n.toNat : Nat), .str k]
    rw [← hn]
theorem ok_is_sheet (T : Txt K mg w) : FnOk P w K mg base CX0 3 T.f_is_sheet.f T.f_is_sheet.fd ["thing"] (spIsPiece isSheetD K) := by
  refine T.f_is_sheet.F.ok sc_is_sheet (fun vs H Q E h => ?_) (fun cdv A outer s H vs Q E hr h => ?_)
  · obtain ⟨v, d, rfl, _⟩ := h
    rfl
  obtain ⟨v, d, rfl, hv, q⟩ := h
  refine ⟨_, (pss_cons (ps_if (PW.pt (pw_or (pt_not (pt_val (pe_call (ok_is_row T) (hr.mono (by decide)) (by rfl) T.f_is_row.g T.f_is_row.F.kp T.f_is_row.b .nil pass0 (pa_cons (pv 0) pa_nil)))) (pw_or (pt_cmpR op_ne (pe_callB (call_lenK K) (by rfl) T.b_len (by decide +kernel) (pa_cons (pv 0) pa_nil)) pe_int (nomark _)) (pw_or1 (pt_not (pt_val (pe_call (ok_is_plain T) (hr.mono (by decide)) (by rfl) T.f_is_plain.g T.f_is_plain.F.kp T.f_is_plain.b .nil pass0 (pa_cons (pe_ix ix_seq (pv 0) pe_int (fun _ _ => rfl)) pa_nil)))))))) (pss_one (ps_ret pe_bl)) pss_nil)
      (pss_one (ps_ret (pe_and (pe_call (ok_is_within T) (hr.mono (by decide)) (by rfl) T.f_is_within.g T.f_is_within.F.kp T.f_is_within.b .nil pass0 (pa_cons (pe_ix ix_seq (pv 0) pe_int (fun _ _ => rfl)) (pa_cons pe_int (pa_cons (pe_callB (call_lenK K) (by rfl) T.b_len (by decide +kernel) (pa_cons (pe_ix ix_seq (pv 0) pe_int (fun _ _ => rfl)) pa_nil)) pa_nil)))) (pe_one (pe_call (ok_is_clip T) (hr.mono (by decide)) (by rfl) T.f_is_clip.g T.f_is_clip.F.kp T.f_is_clip.b .nil pass0 (pa_cons (pe_ix ix_seq (pv 0) pe_int (fun _ _ => rfl)) pa_nil))))))), ?_⟩
  walk_at "rd"
  refine ⟨v, rfl, v, d, rfl, hv, fun H1 s1 => ⟨_, rfl, ?_⟩⟩
  have q := q H1 s1
  unfold isSheetD at q
  cases hrw : isRow d with
  | false =>
    rw [hrw] at q
    exact iteY rfl (iteY rfl q)
  | true =>
    rw [hrw, Bool.true_and] at q
    obtain ⟨a, xs, rfl, hrow, hit⟩ := at_row (At.same s1 _ _ hv) hrw
    have hlen := hit.len
    refine iteN rfl ⟨_, rfl, len_row hrow ⟨rfl, _, rfl, ?_⟩⟩
    revert q hit hlen
    generalize d.items = ds
    intro q hit hlen
    by_cases h3 : ds.length = 3
    · obtain ⟨x, n, k, rfl⟩ : ∃ x n k, ds = [x, n, k] := by
        match ds, h3 with
        | [x, n, k], _ => exact ⟨x, n, k, rfl⟩
      rw [show (!decide (V.int (xs.length : Int) = V.int 3)) = false by rw [hlen]; rfl]
      unfold Ats at hit
      obtain ⟨u1, us, rfl, a1, hit⟩ := hit
      unfold Ats at hit
      obtain ⟨u2, us, rfl, a2, hit⟩ := hit
      unfold Ats at hit
      obtain ⟨u3, us, rfl, a3, hit⟩ := hit
      unfold Ats at hit
      subst hit
      refine iteN rfl ⟨_, rfl, ix_row hrow (at_ofA (j := 0) rfl rfl) ⟨u1, x, rfl, a1, _, rfl, ?_⟩⟩
      cases hp : isPlain x with
      | false =>
        have q : Q (V.bl false) H1 := by
          cases x with
          | str z =>
            replace q : Q (V.bl (isPlain (.str z) && (isWithin n 0 z.length && isClip k))) H1 := q
            rw [hp] at q
            exact q
          | _ => exact q
        exact iteY rfl q
      | true =>
        obtain ⟨z, rfl, _⟩ := plain_str hp
        replace q : Q (V.bl (isPlain (.str z) && (isWithin n 0 z.length && isClip k))) H1 := q
        rw [hp, Bool.true_and] at q
        unfold At at a1
        obtain ⟨rfl, l1⟩ := a1
        refine iteN rfl ⟨_, rfl, ix_row hrow (at_ofA (j := 1) rfl rfl) ⟨_, rfl, ix_row hrow (at_ofA (j := 0) rfl rfl) (len_tx l1 ⟨u2, n, 0, z.length, rfl, a2, _, rfl, ?_⟩)⟩⟩
        cases hw : isWithin n 0 z.length with
        | false =>
          rw [hw] at q
          exact iteN rfl q
        | true =>
          rw [hw, Bool.true_and] at q
          exact iteY rfl ⟨_, rfl, ix_row hrow (at_ofA (j := 2) rfl rfl) ⟨u3, k, rfl, a3, q⟩⟩
    · rw [show (!decide (V.int (xs.length : Int) = V.int 3)) = true by rw [decide_eq_false (fun z => by have := V.int.inj z; omega)]; rfl]
      have q : Q (V.bl false) H1 := by
        rcases ds with _ | ⟨x, _ | ⟨n, _ | ⟨k, _ | ⟨y, r⟩⟩⟩⟩
        · exact q
        · cases x <;> exact q
        · cases x <;> exact q
        · exact absurd rfl h3
        · cases x <;> exact q
      exact iteY rfl (iteY rfl q)
theorem ok_check_sheet (T : Txt K mg w) : FnOk P w K mg base (L2.CX P w) 4 T.f_check_sheet.f T.f_check_sheet.fd ["thing"] (spChk isSheetD T.x_NoSheet.C K) := by
  refine T.f_check_sheet.F.okX sc_check_sheet (fun vs H Q E h => ?_) (fun cdv A outer s H vs Q E hr h => ?_)
  · obtain ⟨v, d, rfl, _⟩ := h
    rfl
  obtain ⟨v, d, rfl, hv, q⟩ := h
  refine ⟨_, (pss_one (ps_if (pt_not (pt_val (pe_call (ok_is_sheet T) (hr.mono (by decide)) (by rfl) T.f_is_sheet.g T.f_is_sheet.F.kp T.f_is_sheet.b .nil pass0 (pa_cons (pv 0) pa_nil)))) (pss_one (ps_raise rfl (takes_of rfl rfl rfl rfl) (pmk_own PySem.F.excBase_ValueError T.r_NoSheet.q T.x_NoSheet.g T.x_NoSheet.k T.r_NoSheet.rz rfl))) pss_nil)), ?_⟩
  walk_at "rd"
  refine ⟨v, rfl, v, d, rfl, hv, fun H1 s1 => ⟨_, rfl, ?_⟩⟩
  cases ht : isSheetD d with
  | true => exact iteN rfl ((q _ s1).1 ht)
  | false => exact iteY rfl ((q _ s1).2 ht)
/-- the letters of a list, joined -/
theorem jn_let (ws : List Nat) : ((ws.map fun c => [c]).map tx).map V.str = ws.map lV ∧ (((ws.map fun c => [c]).map tx).map (·.length)).sum + ((ws.map fun c => [c]).map tx).length * (tx []).length = ws.length ∧ Txt.join (tx []) ((ws.map fun c => [c]).map tx) = tx ws := by
  have hfl : (ws.map fun c => [c]).flatten = ws := by
    induction ws with
    | nil => rfl
    | cons c ws ih => rw [List.map_cons, List.flatten_cons, ih]; rfl
  refine ⟨?_, ?_, ?_⟩
  · rw [List.map_map, List.map_map]
    rfl
  · have e1 : (((ws.map fun c => [c]).map tx).map (·.length)) = (ws.map fun c => [c]).map (·.length) := by rw [List.map_map]; exact List.map_congr_left fun x _ => tx_len x
    rw [e1, tx_len, List.length_nil, Nat.mul_zero, Nat.add_zero, List.map_map]
    clear hfl e1
    induction ws with
    | nil => rfl
    | cons c ws ih =>
      rw [List.map_cons, List.sum_cons, ih, List.length_cons]
      show 1 + ws.length = _
      omega
  · rw [join_tx, hfl]
def sdOf (s : Sh) : Sd Nat := ⟨s.w.take s.n, (s.w.drop s.n).reverse, s.k⟩
def shOf (d : Sd Nat) : Sh := ⟨d.l ++ d.r.reverse, d.l.length, d.c⟩
def pressed (ks : List Ky) (t : Nat) (s : Sh) : Sh := shOf (presses id ks t (sdOf s))
theorem sdOf_size {s : Sh} (h : GoodS s) : (sdOf s).size = s.w.length ∧ (sdOf s).c.length ≤ 60 := by
  refine ⟨?_, h.kl⟩
  have := h.n
  unfold Sd.size sdOf
  simp only [List.length_take, List.length_reverse, List.length_drop]
  omega
/-- a sheet pressed, or a refusal: of the sheet, the hand, the number, in this order -/
def spPressX (D1 D2 D3 : Addr) (K : PySem.W.Frag) : Sp := fun vs H Q E => ∃ (sv hv tv : V) (ds dh dt : Dt), vs = [sv, hv, tv] ∧ At K H sv ds ∧ At K H hv dh ∧ At K H tv dt ∧
  (isSheetD ds = false → ∀ H', Same H H' → E (.ref D1) none H') ∧ (isSheetD ds = true → isHandD dh = false → ∀ H', Same H H' → E (.ref D2) none H') ∧
  (isSheetD ds = true → isHandD dh = true → isWithin dt 0 300 = false → ∀ H', Same H H' → E (.ref D3) none H') ∧
  (isSheetD ds = true → isHandD dh = true → isWithin dt 0 300 = true → ∃ (s : Sh) (ks : List Ky) (t : Nat), SheetAt K H sv s ∧ HandAt K H hv ks ∧ tv = .int t ∧ GoodS s ∧ GoodH ks ∧ t ≤ 300 ∧ s.w.length + 3600 * t ≤ 1000000 ∧
    ∀ p H', Same H H' → H' p = some (.tup (pressed ks t s).vs) → Q (.ref p) H')
theorem ok_press (T : Txt K mg w) : FnOk P w K mg base (L2.CX P w) 7 T.f_press.f T.f_press.fd ["sheet", "hand", "times"] (spPressX T.x_NoSheet.C T.x_NoHand.C T.x_NoTimes.C K) := by
  refine T.f_press.F.okX sc_press (fun vs H Q E h => ?_) (fun cdv A outer s H vs Q E hr h => ?_)
  · obtain ⟨sv, hv, tv, ds, dh, dt, rfl, _⟩ := h
    rfl
  obtain ⟨sv, hv, tv, ds, dh, dt, rfl, as, ah, at0, q1, q2, q3, q4⟩ := h
  refine ⟨_, (pss_cons (ps_expr (pe_call (ok_check_sheet T) (hr.mono (by decide)) (by rfl) T.f_check_sheet.g T.f_check_sheet.F.kp T.f_check_sheet.b .nil (passes_call (takes_of rfl rfl rfl rfl) fun _ _ _ _ h => h) (pa_cons (pv 0) pa_nil)))
      (pss_cons (ps_expr (pe_call (ok_check_hand T) (hr.mono (by decide)) (by rfl) T.f_check_hand.g T.f_check_hand.F.kp T.f_check_hand.b .nil (passes_call (takes_of rfl rfl rfl rfl) fun _ _ _ _ h => h) (pa_cons (pv 1) pa_nil)))
      (pss_cons (ps_if (pt_not (pt_val (pe_call (ok_is_within T) (hr.mono (by decide)) (by rfl) T.f_is_within.g T.f_is_within.F.kp T.f_is_within.b .nil pass0 (pa_cons (pv 2) (pa_cons pe_int (pa_cons (pe_c_MOST_TIMES T) pa_nil)))))) (pss_one (ps_raise rfl (takes_of rfl rfl rfl rfl) (pmk_own PySem.F.excBase_ValueError T.r_NoTimes.q T.x_NoTimes.g T.x_NoTimes.k T.r_NoTimes.rz rfl))) pss_nil)
      (pss_cons (ps_asg (pv 0) (pg_seq rfl (pgs_cons (pg_name (i := 3) sc_press.nd rfl (.inl rfl)) (pgs_cons (pg_name (i := 4) sc_press.nd rfl (.inl rfl)) (pgs_cons (pg_name (i := 5) sc_press.nd rfl (.inl rfl)) pgs_nil)))))
      (pss_cons (ps_set (i := 6) sc_press.nd rfl (.inl rfl) (pe_callTy (call_listS rfl) (by rfl) T.b_list (by decide +kernel) (pa_cons (pe_slice sl_str (pv 3) po_none (po_some (pv 4))) pa_nil)))
      (pss_cons (ps_set (i := 7) sc_press.nd rfl (.inl rfl) (pe_callTy (call_listS rfl) (by rfl) T.b_list (by decide +kernel) (pa_cons (pe_slice sl_str (pv 3) (po_some (pv 4)) po_none) pa_nil)))
      (pss_cons (ps_expr (pe_bm0 PySem.F.plainAttrs_list PySem.F.slot_list_reverse PySem.F.type_list_reverse mt_reverse (pv 7)))
      (pss_cons (ps_set (i := 8) sc_press.nd rfl (.inl rfl) (pe_callTy (call_listS rfl) (by rfl) T.b_list (by decide +kernel) (pa_cons (pv 5) pa_nil)))
      (pss_cons (ps_for (passes_of rfl) rfl (pi_range1 (by rfl) T.b_range (pa_cons (pv 2) pa_nil)) (pg_name (i := 9) sc_press.nd rfl (.inl rfl))
        (pss_one (ps_for (passes_of rfl) rfl (pi_seq (pv 1)) (pg_name (i := 10) sc_press.nd rfl (.inl rfl))
        (pss_one (ps_set (i := 8) sc_press.nd rfl (.inl rfl) (pe_call (ok_do_key T) (hr.mono (by decide)) (by rfl) T.f_do_key.g T.f_do_key.F.kp T.f_do_key.b .nil pass0 (pa_cons (pv 10) (pa_cons (pv 6) (pa_cons (pv 7) (pa_cons (pv 8) pa_nil))))))))))
      (pss_cons (ps_expr (pe_bm0 PySem.F.plainAttrs_list PySem.F.slot_list_reverse PySem.F.type_list_reverse mt_reverse (pv 7)))
      (pss_one (ps_ret (pe_tup (pa_cons (pe_join pe_str (pe_op op_cat (pv 6) (pv 7))) (pa_cons (pe_callB (call_lenK K) (by rfl) T.b_len (by decide +kernel) (pa_cons (pv 6) pa_nil)) (pa_cons (pe_join pe_str (pv 8)) pa_nil)))))))))))))))), ?_⟩
  walk_at "rd"
  refine ⟨_, rfl, sv, ds, rfl, as, fun H1 s1 => ⟨fun gs0 => ?_, fun e => q1 e _ s1⟩⟩
  refine ⟨_, rfl, hv, dh, rfl, At.same s1 _ _ ah, fun H2 s2 => ⟨fun gh0 => ?_, fun e => q2 gs0 e _ (s1.trans s2)⟩⟩
  refine ⟨_, rfl, tv, dt, 0, 300, rfl, At.same (s1.trans s2) _ _ at0, _, rfl, ?_⟩
  cases ht0 : isWithin dt 0 300 with
  | false => exact iteY rfl (q3 gs0 gh0 ht0 _ (s1.trans s2))
  | true =>
  obtain ⟨s, ks, t, hs, hh, rfl, gs, gh, ht, hz, q⟩ := q4 gs0 gh0 ht0
  clear q1 q2 q3 q4 as ah at0
  refine iteN rfl ?_
  obtain ⟨a0, rfl, hrow⟩ := hs.same (s1.trans s2)
  refine ⟨_, rfl, gSeq.row hrow rfl ?_⟩
  walk_at "rd"
  have big : ∀ {m : Nat}, m ≤ 1000000 → m ≤ sizeLine := fun h => Nat.le_trans h (by decide)
  have hn := gs.n
  have hkl := gs.kl
  refine ⟨_, _, rfl, _, _, rfl, _, _, rfl, rfl, _, rfl, _, rfl, _, rfl, tx s.w, rfl, by rw [tx_len]; exact big gs.wl, ?_⟩
  rw [cut__n]
  refine ⟨_, rfl, by rw [← Array.length_toList, tx_cps, List.length_take]; exact big (by omega), fun a nA => ?_⟩
  rw [tx_cps]
  have s3 : Same H2 (upd H2 a (.lst ((s.w.take s.n).map lV))) := same_upd nA
  have hA : (upd H2 a (.lst ((s.w.take s.n).map lV))) a = some (.lst ((s.w.take s.n).map lV)) := upd_same
  show _
  generalize hH3 : upd H2 a (.lst ((s.w.take s.n).map fun c => V.str (tx [c]))) = H3
  have s3 : Same H2 H3 := by rw [← hH3]; exact same_upd nA
  have hA : H3 a = some (.lst ((s.w.take s.n).map lV)) := by rw [← hH3]; exact upd_same
  clear hH3
  refine ⟨_, rfl, _, rfl, _, rfl, tx s.w, rfl, by rw [tx_len]; exact big gs.wl, ?_⟩
  rw [cut_n_]
  refine ⟨_, rfl, by rw [← Array.length_toList, tx_cps, List.length_drop]; exact big (by omega), fun b nB => ?_⟩
  rw [tx_cps]
  have hab : a ≠ b := fun e => by rw [← e, hA] at nB; cases nB
  refine ⟨_, rfl, .inl ⟨rfl, _, SqL.of upd_same⟩, b, _, rfl, rfl, upd_same, ?_⟩
  rw [upd_upd, ← List.map_reverse]
  generalize hH4 : upd H3 b (.lst ((s.w.drop s.n).reverse.map fun c => V.str (tx [c]))) = H4
  have s4 : Same H3 H4 := by rw [← hH4]; exact same_upd nB
  have hB : H4 b = some (.lst ((s.w.drop s.n).reverse.map lV)) := by rw [← hH4]; exact upd_same
  clear hH4
  have hA := s4 _ _ hA
  refine ⟨_, rfl, _, rfl, by rw [← Array.length_toList, tx_cps]; exact big (by omega), fun c nC => ?_⟩
  rw [tx_cps]
  have hac : a ≠ c := fun e => by rw [← e, hA] at nC; cases nC
  have hbc : b ≠ c := fun e => by rw [← e, hB] at nC; cases nC
  generalize hH5 : upd H4 c (.lst (s.k.map fun c => V.str (tx [c]))) = H5
  have s5 : Same H4 H5 := by rw [← hH5]; exact same_upd nC
  have hC : H5 c = some (.lst (s.k.map lV)) := by rw [← hH5]; exact upd_same
  clear hH5
  have hA := s5 _ _ hA
  have hB := s5 _ _ hB
  refine fr_rng1 ⟨_, rfl, _, rfl, by omega, by omega, ?_⟩
  have nA0 : H a = none := (s1.trans s2).free nA
  have nB0 : H b = none := ((s1.trans s2).trans s3).free nB
  have hsd : sdV ((sdOf s).map lV) H5 a b c := ⟨hA, hB, hC, hab, hac, hbc⟩
  have hsame : Same H H5 := (((s1.trans s2).trans s3).trans s4).trans s5
  clear hA hB hC s1 s2 s3 s4 s5 hrow nC nA nB
  obtain ⟨ah, xs, rfl, hrowH, hp⟩ := hh
  have hxl : xs.length = ks.length := prd_len hp
  have hfew := gh.few
  obtain ⟨sz0, cz0⟩ := sdOf_size gs
  have kw : ∀ k ∈ ks, k.wt ≤ 60 := fun k hk => Nat.le_trans (hwt_mem hk) gh.wt
  have sg := fun (x y : Option V) (c' : Addr) => show List (Option V) from [some (.ref a0), some (.ref ah), some (.int t), some (.str (tx s.w)), some (.int s.n), some (.str (tx s.k)), some (.ref a), some (.ref b), some (.ref c'), x, y]
  refine ForGo.range (fun i σ H' => ∃ c' x y, σ = [some (.ref a0), some (.ref ah), some (.int t), some (.str (tx s.w)), some (.int s.n), some (.str (tx s.k)), some (.ref a), some (.ref b), some (.ref c'), x, y] ∧ Same H H' ∧ sdV ((presses id ks i (sdOf s)).map lV) H' a b c')
    ⟨c, none, none, rfl, hsame, hsd⟩ ?_ ?_
  · rintro i σ H6 hi ⟨c1, x, y, rfl, s6, hsd6⟩
    have hi : i < t := hi
    refine for_row (K := K) (a := ah) (xs := xs) rfl hrowH s6 (fun j σ H' => ∃ c' y, σ = [some (.ref a0), some (.ref ah), some (.int t), some (.str (tx s.w)), some (.int s.n), some (.str (tx s.k)), some (.ref a), some (.ref b), some (.ref c'), some (.int (0 + i)), y] ∧ Same H H' ∧ sdV ((steps id (ks.take j) (presses id ks i (sdOf s))).map lV) H' a b c')
      ⟨c1, y, rfl, s6, hsd6⟩ (fun j σ H' _ ⟨_, _, _, s7, _⟩ => s7) ?_ ?_
    · rintro j x σ H7 hx ⟨c2, y, rfl, s7, hsd7⟩
      obtain ⟨k, hk, r⟩ := prd_at hp hx
      obtain ⟨p1, p2⟩ := presses_size id ks kw hfew i (sdOf s) cz0
      obtain ⟨p3, p4⟩ := steps_size id (ks.take j) (presses id ks i (sdOf s)) (fun k hk => kw k (List.mem_of_mem_take hk)) p2
      walk_at "rd"
      refine ⟨_, rfl, _, rfl, _, rfl, _, rfl, x, k, a, b, c2, _, rfl, r.same s7, gh.ok k (List.mem_of_getElem? hk), hsd7, ?_, fun p H8 fr hsd8 => ?_⟩
      · have e1 : ((steps id (ks.take j) (presses id ks i (sdOf s))).map lV).size = (steps id (ks.take j) (presses id ks i (sdOf s))).size := by
          unfold Sd.size Sd.map
          simp only [List.length_map]
        have e2 : ((steps id (ks.take j) (presses id ks i (sdOf s))).map lV).c.length = (steps id (ks.take j) (presses id ks i (sdOf s))).c.length := by
          unfold Sd.map
          simp only [List.length_map]
        have e3 : (ks.take j).length ≤ 60 := by
          rw [List.length_take]
          omega
        rw [e1, e2]
        omega
      · refine ⟨p, some x, rfl, fun u o hu => fr u o (fun e => by rw [e, nA0] at hu; cases hu) (fun e => by rw [e, nB0] at hu; cases hu) (s7 _ _ hu), ?_⟩
        have e4 : ks.take (j + 1) = ks.take j ++ [k] := by rw [List.take_add_one, hk]; rfl
        rw [e4, steps_app, steps_cons]
        show sdV ((step id k _).map lV) H8 a b p
        rw [← step_map id lV k]
        exact hsd8
    · rintro σ H7 ⟨c2, y, rfl, s7, hsd7⟩
      refine ⟨c2, _, y, rfl, s7, ?_⟩
      rw [presses_succ]
      rw [hxl, List.take_length] at hsd7
      exact hsd7
  · rintro σ H6 ⟨c1, x, y, rfl, s6, hA, hB, hC, _⟩
    have hA : H6 a = some (.lst ((presses id ks t (sdOf s)).l.map lV)) := hA
    have hB : H6 b = some (.lst ((presses id ks t (sdOf s)).r.map lV)) := hB
    have hC : H6 c1 = some (.lst ((presses id ks t (sdOf s)).c.map lV)) := hC
    walk_at "rd"
    refine ⟨_, rfl, .inl ⟨rfl, _, SqL.of hB⟩, b, _, rfl, rfl, hB, ?_⟩
    obtain ⟨p1, p2⟩ := presses_size id ks kw hfew t (sdOf s) cz0
    rw [sz0] at p1
    have hpr : pressed ks t s = shOf (presses id ks t (sdOf s)) := rfl
    generalize presses id ks t (sdOf s) = z at *
    have hzl : z.l.length + z.r.length ≤ 1000000 := Nat.le_trans p1 hz
    have hab2 : a ≠ b := hab
    rw [← List.map_reverse]
    generalize hH7 : upd H6 b (.lst (z.r.reverse.map lV)) = H7
    have s7 : Same H H7 := by rw [← hH7]; exact same_mut s6 nB0
    have hB7 : H7 b = some (.lst (z.r.reverse.map lV)) := by rw [← hH7]; exact upd_same
    have hA7 : H7 a = some (.lst (z.l.map lV)) := by rw [← hH7, upd_ne hab2]; exact hA
    have hbc1 : b ≠ c1 := by rename_i h; exact h.2.2
    have hC7 : H7 c1 = some (.lst (z.c.map lV)) := by rw [← hH7, upd_ne hbc1.symm]; exact hC
    clear hH7 hA hB hC
    show _
    refine ⟨⟨_, rfl⟩, _, rfl, _, rfl, a, b, _, _, rfl, rfl, hA7, hB7, ?_, fun D nD => ?_⟩
    · rw [List.length_map, List.length_map, List.length_reverse]
      exact big hzl
    rw [← List.map_append]
    obtain ⟨j1, j2, j3⟩ := jn_let (z.l ++ z.r.reverse)
    obtain ⟨k1, k2, k3⟩ := jn_let z.c
    refine ⟨tx [], D, ((z.l ++ z.r.reverse).map fun c => [c]).map tx, rfl, rfl, .inl (SqL.of (by rw [j1]; exact upd_same)), ?_, ?_⟩
    · rw [j2, List.length_append, List.length_reverse]
      exact Nat.le_trans hzl (by decide)
    have s8 := same_upd (o := .lst ((z.l ++ z.r.reverse).map lV)) nD
    refine ⟨_, rfl, len_row (.inl (SqL.of (s8 _ _ hA7))) ⟨⟨_, rfl⟩, _, rfl, tx [], c1, (z.c.map fun c => [c]).map tx, rfl, rfl, .inl (SqL.of (by rw [k1]; exact s8 _ _ hC7)), ?_, (by show 3 ≤ sizeLine; decide), fun p nP => q p _ ((s7.trans s8).trans (same_upd nP)) ?_⟩⟩
    · rw [k2]
      omega
    · rw [upd_same, j3, k3, List.length_map, hpr]
      rfl

def need (b : Bool) : Ky → Option Nat
  | .left n | .rub n => if b then some n else none
  | .right n | .strike n | .copy n | .cut n => if b then none else some n
  | _ => none
def sideL {α : Type} (b : Bool) (s : Sd α) : Nat := if b then s.l.length else s.r.length
def rstep (b : Bool) (x : Sd V × Int) (k : Ky) : Sd V × Int := (step lV k x.1, match need b k with
  | some n => min x.2 ((sideL b x.1 : Nat) - (n : Int))
  | none => x.2)
def rstart (b : Bool) : Sd V × Int := (⟨if b then List.replicate 60 (.str "") else [], if b then [] else List.replicate 60 (.str ""), []⟩, 60)
def rfold (b : Bool) (ks : List Ky) : Sd V × Int := ks.foldl (rstep b) (rstart b)
def sn (b : Bool) : Str := if b then "left" else "right"
abbrev sideTab : List (Str × Str) := [("left", "left"), ("rub", "left"), ("right", "right"), ("strike", "right"), ("copy", "right"), ("cut", "right")]
theorem need_none (b : Bool) (k : Ky) (h : need b k = none) : decide (oV (sideTab.lookup k.kn) = .str (sn b)) = false := by
  cases k with
  | write w => cases b with
    | true => show decide (oV (none : Option Str) = V.str "left") = false; decide
    | false => show decide (oV (none : Option Str) = V.str "right") = false; decide
  | paste => cases b <;> decide
  | left n | rub n => cases b with
    | true => cases h
    | false => show decide (oV (some ("left" : Str)) = V.str "right") = false; decide
  | right n | strike n | copy n | cut n => cases b with
    | false => cases h
    | true => show decide (oV (some ("right" : Str)) = V.str "left") = false; decide
theorem need_some (b : Bool) (k : Ky) (n : Nat) (h : need b k = some n) : decide (oV (sideTab.lookup k.kn) = .str (sn b)) = true ∧ k.vs[1]? = some (.int n) := by
  cases k with
  | write w => cases h
  | paste => cases h
  | left m | rub m => cases b with
    | true =>
      have e := Option.some.inj (show some m = some n from h)
      subst e
      exact ⟨by show decide (oV (some ("left" : Str)) = V.str "left") = true; decide, rfl⟩
    | false => cases h
  | right m | strike m | copy m | cut m => cases b with
    | false =>
      have e := Option.some.inj (show some m = some n from h)
      subst e
      exact ⟨by show decide (oV (some ("right" : Str)) = V.str "right") = true; decide, rfl⟩
    | true => cases h
theorem oV_scal (o : Option Str) (z : Str) : scal (oV o) (.str z) = true := by cases o <;> rfl
theorem rfold_steps (b : Bool) : ∀ (ks : List Ky) (x : Sd V × Int), (ks.foldl (rstep b) x).1 = steps lV ks x.1
  | [], _ => rfl
  | k :: ks, x => rfold_steps b ks (rstep b x k)
/-! ### lengths alone -/
structure Ln where
  l : Nat
  r : Nat
  c : Nat
def Sd.ln {α : Type} (s : Sd α) : Ln := ⟨s.l.length, s.r.length, s.c.length⟩
def lstep : Ky → Ln → Ln
  | .write w, s => ⟨s.l + w.length, s.r, s.c⟩
  | .paste, s => ⟨s.l + s.c, s.r, s.c⟩
  | .left n, s => ⟨s.l - n, s.r + min n s.l, s.c⟩
  | .right n, s => ⟨s.l + min n s.r, s.r - n, s.c⟩
  | .strike n, s => ⟨s.l, s.r - n, s.c⟩
  | .rub n, s => ⟨s.l - n, s.r, s.c⟩
  | .copy n, s => ⟨s.l, s.r, min n s.r⟩
  | .cut n, s => ⟨s.l, s.r - n, min n s.r⟩
theorem step_ln {α : Type} (f : Nat → α) (k : Ky) (s : Sd α) : (step f k s).ln = lstep k s.ln := by
  cases k <;> simp only [step, lstep, Sd.ln, List.length_append, List.length_map, near_len, rest_len]
def lside (b : Bool) (s : Ln) : Nat := if b then s.l else s.r
def lrs (b : Bool) (x : Ln × Int) (k : Ky) : Ln × Int := (lstep k x.1, match need b k with
  | some n => min x.2 ((lside b x.1 : Nat) - (n : Int))
  | none => x.2)
def lfold (b : Bool) (ks : List Ky) (x : Ln × Int) : Ln × Int := ks.foldl (lrs b) x
theorem lrs_of (b : Bool) (x : Sd V × Int) (k : Ky) : ((rstep b x k).1.ln, (rstep b x k).2) = lrs b (x.1.ln, x.2) k := by
  unfold rstep lrs
  rw [step_ln]
  have e : sideL b x.1 = lside b x.1.ln := by cases b <;> rfl
  rw [e]
  try rfl
theorem lfold_of (b : Bool) : ∀ (ks : List Ky) (x : Sd V × Int), ((ks.foldl (rstep b) x).1.ln, (ks.foldl (rstep b) x).2) = lfold b ks (x.1.ln, x.2)
  | [], _ => rfl
  | k :: ks, x => by
    rw [List.foldl_cons, lfold_of b ks (rstep b x k), lrs_of]
    rfl
theorem lfold_le (b : Bool) : ∀ (ks : List Ky) (x : Ln × Int), (lfold b ks x).2 ≤ x.2
  | [], _ => Int.le_refl _
  | k :: ks, x => by
    have h := lfold_le b ks (lrs b x k)
    have h2 : (lrs b x k).2 ≤ x.2 := by
      unfold lrs
      split
      · exact Int.min_le_left _ _
      · exact Int.le_refl _
    exact Int.le_trans h h2
/-! ### lengths in the heap -/
def lnV (s : Ln) : List V := [.int s.l, .int s.r, .int s.c]
def LnAt (K : PySem.W.Frag) (H : Hp) (v : V) (s : Ln) : Prop := ∃ a, v = .ref a ∧ Row K H a (lnV s)
theorem LnAt.same {K : PySem.W.Frag} {H H' : Hp} {v : V} {s} (e : Same H H') (h : LnAt K H v s) : LnAt K H' v s := by
  obtain ⟨a, rfl, h⟩ := h
  exact ⟨a, rfl, h.same e⟩
theorem lnAt_tup {K : PySem.W.Frag} {H : Hp} {a : Addr} {s : Ln} (h : H a = some (.tup (lnV s))) : LnAt K H (.ref a) s := ⟨a, rfl, .inr (SqT.of h)⟩
theorem lnV_eq {s : Ln} {a b c : Int} (h1 : a = (s.l : Int)) (h2 : b = (s.r : Int)) (h3 : c = (s.c : Int)) : ([.int a, .int b, .int c] : List V) = lnV s := by rw [h1, h2, h3]; rfl
abbrev numTab : List (Str × Int) := [("left", 0), ("right", 1), ("clip", 2)]
def spGo (K : PySem.W.Frag) : Sp := fun vs H Q _ => ∃ kv lv k s, vs = [kv, lv] ∧ KeyAt K H kv k ∧ LnAt K H lv s ∧ k.ok ∧ ∀ p, H p = none → Q (.ref p) (upd H p (.tup (lnV (lstep k s))))
theorem ok_go (T : Txt K mg w) : FnOk P w K mg base CX0 1 T.f_go.f T.f_go.fd ["key", "lengths"] (spGo K) := by
  refine T.f_go.F.ok sc_go (fun vs H Q E h => ?_) (fun cdv A outer s H vs Q E hr h => ?_)
  · obtain ⟨kv, lv, k, s, rfl, _⟩ := h
    rfl
  obtain ⟨kv, lv, k, ⟨l, r, c⟩, rfl, ⟨u, rfl, hk⟩, ⟨a, rfl, hl⟩, hok, q⟩ := h
  refine ⟨_, (pss_cons (ps_asg (pv 1) (pg_seq rfl (pgs_cons (pg_name (i := 2) sc_go.nd rfl (.inl rfl)) (pgs_cons (pg_name (i := 3) sc_go.nd rfl (.inl rfl)) (pgs_cons (pg_name (i := 4) sc_go.nd rfl (.inl rfl)) pgs_nil)))))
      (pss_cons (ps_set (i := 5) sc_go.nd rfl (.inl rfl) (pe_ix ix_seq (pv 0) pe_int (fun _ _ => rfl)))
      (pss_cons (ps_if (pt_cmpR op_eq (pv 5) pe_str (nomark _)) (pss_one (ps_ret (pe_tup (pa_cons (pe_op op_add (pv 2) (pe_callB (call_lenK K) (by rfl) T.b_len (by decide +kernel) (pa_cons (pe_ix ix_seq (pv 0) pe_int (fun _ _ => rfl)) pa_nil))) (pa_cons (pv 3) (pa_cons (pv 4) pa_nil)))))) pss_nil)
      (pss_cons (ps_if (pt_cmpR op_eq (pv 5) pe_str (nomark _)) (pss_one (ps_ret (pe_tup (pa_cons (pe_op op_add (pv 2) (pv 4)) (pa_cons (pv 3) (pa_cons (pv 4) pa_nil)))))) pss_nil)
      (pss_cons (ps_set (i := 6) sc_go.nd rfl (.inl rfl) (pe_callB (call_min2 rfl) (by rfl) T.b_min (by decide +kernel) (pa_cons (pe_ix ix_seq (pv 0) pe_int (fun _ _ => rfl)) (pa_cons (pe_ix ix_seq (pv 1) (pe_ix ix_kdict (pe_id T.c_NUMBERS (by rfl) (by decide)) (pe_ix ix_kdict (pe_sd T.c_SIDES (by rfl) (by decide)) (pv 5) (fun _ _ => rfl)) (fun _ _ => rfl)) (fun _ _ => rfl)) pa_nil))))
      (pss_cons (ps_if (pt_cmpR op_eq (pv 5) pe_str (nomark _)) (pss_one (ps_ret (pe_tup (pa_cons (pe_op op_sub (pv 2) (pv 6)) (pa_cons (pe_op op_add (pv 3) (pv 6)) (pa_cons (pv 4) pa_nil)))))) pss_nil)
      (pss_cons (ps_if (pt_cmpR op_eq (pv 5) pe_str (nomark _)) (pss_one (ps_ret (pe_tup (pa_cons (pe_op op_add (pv 2) (pv 6)) (pa_cons (pe_op op_sub (pv 3) (pv 6)) (pa_cons (pv 4) pa_nil)))))) pss_nil)
      (pss_cons (ps_if (pt_cmpR op_eq (pv 5) pe_str (nomark _)) (pss_one (ps_ret (pe_tup (pa_cons (pe_op op_sub (pv 2) (pv 6)) (pa_cons (pv 3) (pa_cons (pv 4) pa_nil)))))) pss_nil)
      (pss_cons (ps_if (pt_cmpR op_eq (pv 5) pe_str (nomark _)) (pss_one (ps_ret (pe_tup (pa_cons (pv 2) (pa_cons (pe_op op_sub (pv 3) (pv 6)) (pa_cons (pv 4) pa_nil)))))) pss_nil)
      (pss_cons (ps_if (pt_cmpR op_eq (pv 5) pe_str (nomark _)) (pss_one (ps_ret (pe_tup (pa_cons (pv 2) (pa_cons (pv 3) (pa_cons (pv 6) pa_nil)))))) pss_nil)
      (pss_one (ps_ret (pe_tup (pa_cons (pv 2) (pa_cons (pe_op op_sub (pv 3) (pv 6)) (pa_cons (pv 6) pa_nil)))))))))))))))), ?_⟩
  walk_at "rd"
  refine ⟨_, rfl, gSeq.row hl rfl ?_⟩
  walk_at "rd"
  refine ⟨_, _, rfl, _, _, rfl, _, _, rfl, rfl, ?_⟩
  have z3 : 3 ≤ sizeLine := by decide
  have hsd : ∀ {z y : Str}, sideTab.lookup z = some y → KDct K w T.c_SIDES.d z (.str y) := fun h => T.c_SIDES.at h
  have hnu : ∀ {z : Str} {y : Int}, numTab.lookup z = some y → KDct K w T.c_NUMBERS.d z (.int y) := fun h => T.c_NUMBERS.at h
  have fin : ∀ {a b c' : Int} {s' : Ln}, lstep k ⟨l, r, c⟩ = s' → a = (s'.l : Int) → b = (s'.r : Int) → c' = (s'.c : Int) → ([V.int a, V.int b, V.int c'].length ≤ sizeLine ∧ ∀ p, H p = none → Q (.ref p) (upd H p (.tup [V.int a, V.int b, V.int c']))) := fun e e1 e2 e3 => ⟨z3, fun p hp => by
    rw [lnV_eq e1 e2 e3, ← e]
    exact q p hp⟩
  cases k with
  | write x =>
    refine ⟨_, rfl, ix_row hk (at_ofA (j := 0) rfl rfl) ⟨_, rfl, rfl, st_yes ?_⟩⟩
    exact ⟨_, rfl, _, rfl, ix_row hk (at_ofA (j := 1) rfl rfl) (len_tx (Nat.le_trans hok.2.1 (by decide)) ⟨_, _, rfl, rfl, _, rfl, _, rfl, fin rfl (by show (l : Int) + (x.length : Int) = ((l + x.length : Nat) : Int); omega) rfl rfl⟩)⟩
  | paste =>
    refine ⟨_, rfl, ix_row hk (at_ofA (j := 0) rfl rfl) ⟨_, rfl, rfl, st_no (by decide) ⟨_, rfl, rfl, st_yes ?_⟩⟩⟩
    exact ⟨_, rfl, _, rfl, _, _, rfl, rfl, _, rfl, _, rfl, fin rfl (by show (l : Int) + (c : Int) = ((l + c : Nat) : Int); omega) rfl rfl⟩
  | left n =>
    refine ⟨_, rfl, ix_row hk (at_ofA (j := 0) rfl rfl) ⟨_, rfl, rfl, st_no (by decide) ⟨_, rfl, rfl, st_no (by decide) ?_⟩⟩⟩
    refine ⟨_, rfl, ix_row hk (at_ofA (j := 1) rfl rfl) ⟨_, rfl, _, rfl, _, _, _, rfl, rfl, hsd rfl, _, _, _, rfl, rfl, hnu rfl, ix_row hl (at_ofA (j := 0) rfl rfl) ⟨_, _, rfl, ?_⟩⟩⟩
    walk_at "rd"
    rw [show (if (l : Int) < (n : Int) then (l : Int) else (n : Int)) = ((min n l : Nat) : Int) by split <;> omega]
    exact ⟨_, rfl, rfl, st_yes ⟨_, rfl, _, rfl, _, _, rfl, rfl, _, rfl, _, rfl, _, _, rfl, rfl, _, rfl, fin rfl (by show (l : Int) - ((min n l : Nat) : Int) = ((l - n : Nat) : Int); omega) (by show (r : Int) + ((min n l : Nat) : Int) = ((r + min n l : Nat) : Int); omega) rfl⟩⟩
  | right n =>
    refine ⟨_, rfl, ix_row hk (at_ofA (j := 0) rfl rfl) ⟨_, rfl, rfl, st_no (by decide) ⟨_, rfl, rfl, st_no (by decide) ?_⟩⟩⟩
    refine ⟨_, rfl, ix_row hk (at_ofA (j := 1) rfl rfl) ⟨_, rfl, _, rfl, _, _, _, rfl, rfl, hsd rfl, _, _, _, rfl, rfl, hnu rfl, ix_row hl (at_ofA (j := 1) rfl rfl) ⟨_, _, rfl, ?_⟩⟩⟩
    walk_at "rd"
    rw [show (if (r : Int) < (n : Int) then (r : Int) else (n : Int)) = ((min n r : Nat) : Int) by split <;> omega]
    exact ⟨_, rfl, rfl, st_no (by decide) ⟨_, rfl, rfl, st_yes ⟨_, rfl, _, rfl, _, _, rfl, rfl, _, rfl, _, rfl, _, _, rfl, rfl, _, rfl, fin rfl (by show (l : Int) + ((min n r : Nat) : Int) = ((l + min n r : Nat) : Int); omega) (by show (r : Int) - ((min n r : Nat) : Int) = ((r - n : Nat) : Int); omega) rfl⟩⟩⟩
  | rub n =>
    refine ⟨_, rfl, ix_row hk (at_ofA (j := 0) rfl rfl) ⟨_, rfl, rfl, st_no (by decide) ⟨_, rfl, rfl, st_no (by decide) ?_⟩⟩⟩
    refine ⟨_, rfl, ix_row hk (at_ofA (j := 1) rfl rfl) ⟨_, rfl, _, rfl, _, _, _, rfl, rfl, hsd rfl, _, _, _, rfl, rfl, hnu rfl, ix_row hl (at_ofA (j := 0) rfl rfl) ⟨_, _, rfl, ?_⟩⟩⟩
    walk_at "rd"
    rw [show (if (l : Int) < (n : Int) then (l : Int) else (n : Int)) = ((min n l : Nat) : Int) by split <;> omega]
    exact ⟨_, rfl, rfl, st_no (by decide) ⟨_, rfl, rfl, st_no (by decide) ⟨_, rfl, rfl, st_yes ⟨_, rfl, _, rfl, _, _, rfl, rfl, _, rfl, _, rfl, fin rfl (by show (l : Int) - ((min n l : Nat) : Int) = ((l - n : Nat) : Int); omega) rfl rfl⟩⟩⟩⟩
  | strike n =>
    refine ⟨_, rfl, ix_row hk (at_ofA (j := 0) rfl rfl) ⟨_, rfl, rfl, st_no (by decide) ⟨_, rfl, rfl, st_no (by decide) ?_⟩⟩⟩
    refine ⟨_, rfl, ix_row hk (at_ofA (j := 1) rfl rfl) ⟨_, rfl, _, rfl, _, _, _, rfl, rfl, hsd rfl, _, _, _, rfl, rfl, hnu rfl, ix_row hl (at_ofA (j := 1) rfl rfl) ⟨_, _, rfl, ?_⟩⟩⟩
    walk_at "rd"
    rw [show (if (r : Int) < (n : Int) then (r : Int) else (n : Int)) = ((min n r : Nat) : Int) by split <;> omega]
    exact ⟨_, rfl, rfl, st_no (by decide) ⟨_, rfl, rfl, st_no (by decide) ⟨_, rfl, rfl, st_no (by decide) ⟨_, rfl, rfl, st_yes ⟨_, rfl, _, rfl, _, rfl, _, _, rfl, rfl, _, rfl, fin rfl rfl (by show (r : Int) - ((min n r : Nat) : Int) = ((r - n : Nat) : Int); omega) rfl⟩⟩⟩⟩⟩
  | copy n =>
    refine ⟨_, rfl, ix_row hk (at_ofA (j := 0) rfl rfl) ⟨_, rfl, rfl, st_no (by decide) ⟨_, rfl, rfl, st_no (by decide) ?_⟩⟩⟩
    refine ⟨_, rfl, ix_row hk (at_ofA (j := 1) rfl rfl) ⟨_, rfl, _, rfl, _, _, _, rfl, rfl, hsd rfl, _, _, _, rfl, rfl, hnu rfl, ix_row hl (at_ofA (j := 1) rfl rfl) ⟨_, _, rfl, ?_⟩⟩⟩
    walk_at "rd"
    rw [show (if (r : Int) < (n : Int) then (r : Int) else (n : Int)) = ((min n r : Nat) : Int) by split <;> omega]
    exact ⟨_, rfl, rfl, st_no (by decide) ⟨_, rfl, rfl, st_no (by decide) ⟨_, rfl, rfl, st_no (by decide) ⟨_, rfl, rfl, st_no (by decide) ⟨_, rfl, rfl, st_yes ⟨_, rfl, _, rfl, _, rfl, fin rfl rfl rfl rfl⟩⟩⟩⟩⟩⟩
  | cut n =>
    refine ⟨_, rfl, ix_row hk (at_ofA (j := 0) rfl rfl) ⟨_, rfl, rfl, st_no (by decide) ⟨_, rfl, rfl, st_no (by decide) ?_⟩⟩⟩
    refine ⟨_, rfl, ix_row hk (at_ofA (j := 1) rfl rfl) ⟨_, rfl, _, rfl, _, _, _, rfl, rfl, hsd rfl, _, _, _, rfl, rfl, hnu rfl, ix_row hl (at_ofA (j := 1) rfl rfl) ⟨_, _, rfl, ?_⟩⟩⟩
    walk_at "rd"
    rw [show (if (r : Int) < (n : Int) then (r : Int) else (n : Int)) = ((min n r : Nat) : Int) by split <;> omega]
    exact ⟨_, rfl, rfl, st_no (by decide) ⟨_, rfl, rfl, st_no (by decide) ⟨_, rfl, rfl, st_no (by decide) ⟨_, rfl, rfl, st_no (by decide) ⟨_, rfl, rfl, st_no (by decide) ⟨_, rfl, _, rfl, _, rfl, _, _, rfl, rfl, _, rfl, fin rfl rfl (by show (r : Int) - ((min n r : Nat) : Int) = ((r - n : Nat) : Int); omega) rfl⟩⟩⟩⟩⟩⟩
def x0 (b : Bool) : Ln := if b then ⟨60, 0, 0⟩ else ⟨0, 60, 0⟩
theorem rfold_lfold (b : Bool) (ks : List Ky) : (rfold b ks).2 = (lfold b ks (x0 b, 60)).2 := by
  have h := congrArg Prod.snd (lfold_of b ks (rstart b))
  have e : ((rstart b).1.ln, (rstart b).2) = (x0 b, (60 : Int)) := by cases b <;> rfl
  rw [e] at h
  exact h
def spNeeded (K : PySem.W.Frag) : Sp := fun vs H Q _ => ∃ (hv lv : V) (b : Bool) (ks : List Ky) (x : Ln), vs = [hv, .str (sn b), lv] ∧ HandAt K H hv ks ∧ GoodH ks ∧ LnAt K H lv x ∧ ∀ H', Same H H' → Q (.int (60 - (lfold b ks (x, 60)).2)) H'
theorem num_sn (b : Bool) : numTab.lookup (sn b) = some (if b then 0 else 1) := by cases b <;> decide
theorem ok_needed (T : Txt K mg w) : FnOk P w K mg base CX0 2 T.f_needed.f T.f_needed.fd ["hand", "side", "lengths"] (spNeeded K) := by
  refine T.f_needed.F.ok sc_needed (fun vs H Q E h => ?_) (fun cdv A outer s H vs Q E hr h => ?_)
  · obtain ⟨hv, lv, b, ks, x, rfl, _⟩ := h
    rfl
  obtain ⟨hv, lv, b, ks, x, rfl, ⟨ah, xs, rfl, hrowH, hp⟩, gh, hl, q⟩ := h
  refine ⟨_, (pss_cons (ps_set (i := 3) sc_needed.nd rfl (.inl rfl) (pe_c_HEAVIEST T))
      (pss_cons (ps_for PassesOwn.never rfl (pi_seq (pv 0)) (pg_name (i := 4) sc_needed.nd rfl (.inl rfl))
        (pss_cons (ps_if (pt_cmpR op_eq (pe_sget T.c_SIDES (pe_sd T.c_SIDES (by rfl) (by decide)) (pe_ix ix_seq (pv 4) pe_int (fun _ _ => rfl)) ⟨by rfl, by rfl, by rfl, by rfl⟩) (pv 1) (nomark _)) (pss_one (ps_set (i := 3) sc_needed.nd rfl (.inl rfl) (pe_callB (call_min2 rfl) (by rfl) T.b_min (by decide +kernel) (pa_cons (pv 3) (pa_cons (pe_op op_sub (pe_ix ix_seq (pv 2) (pe_ix ix_kdict (pe_id T.c_NUMBERS (by rfl) (by decide)) (pv 1) (fun _ _ => rfl)) (fun _ _ => rfl)) (pe_ix ix_seq (pv 4) pe_int (fun _ _ => rfl))) pa_nil))))) pss_nil)
      (pss_one (ps_set (i := 2) sc_needed.nd rfl (.inl rfl) (pe_call (ok_go T) (hr.mono (by decide)) (by rfl) T.f_go.g T.f_go.F.kp T.f_go.b .nil pass0 (pa_cons (pv 4) (pa_cons (pv 2) pa_nil)))))))
      (pss_one (ps_ret (pe_op op_sub (pe_c_HEAVIEST T) (pv 3)))))), ?_⟩
  walk_at "rd"
  have hxl : xs.length = ks.length := prd_len hp
  refine for_row (K := K) (a := ah) (xs := xs) rfl hrowH (Same.refl _) (fun i σ H' => ∃ lv' y, σ = [some (.ref ah), some (.str (sn b)), some lv', some (.int (lfold b (ks.take i) (x, 60)).2), y] ∧ Same H H' ∧ LnAt K H' lv' (lfold b (ks.take i) (x, 60)).1)
    ⟨lv, none, rfl, Same.refl _, hl⟩ (fun i σ H' _ ⟨_, _, _, s9, _⟩ => s9) ?_ ?_
  · rintro i v σ H8 hx ⟨lv', y, rfl, s9, hl9⟩
    obtain ⟨k, hk, rk⟩ := prd_at hp hx
    have hok := gh.ok k (List.mem_of_getElem? hk)
    obtain ⟨u, rfl, hrow⟩ := rk.same s9
    have hst : lfold b (ks.take (i + 1)) (x, 60) = lrs b (lfold b (ks.take i) (x, 60)) k := by
      unfold lfold
      rw [List.take_add_one, hk, List.foldl_append]
      rfl
    generalize hz : lfold b (ks.take i) (x, 60) = z at *
    obtain ⟨al, rfl, hrl⟩ := hl9
    have fin : ∀ (B : L2.St → Hp → Prop) (m : Int), m = (lrs b z k).2 → ∀ σ, σ = [some (.ref ah), some (.str (sn b)), some (.ref al), some (.int m), some (V.ref u)] →
        tAsg (tCall (spGo K) [] E0 (tCons (tVar 4) (tCons (tVar 2) tNil))) (gName 2)
          { nx := fun σ H' => ∃ lv' y, σ = [some (.ref ah), some (.str (sn b)), some lv', some (.int (lfold b (ks.take (i + 1)) (x, 60)).2), y] ∧ Same H H' ∧ LnAt K H' lv' (lfold b (ks.take (i + 1)) (x, 60)).1,
            ct := fun σ H' => ∃ lv' y, σ = [some (.ref ah), some (.str (sn b)), some lv', some (.int (lfold b (ks.take (i + 1)) (x, 60)).2), y] ∧ Same H H' ∧ LnAt K H' lv' (lfold b (ks.take (i + 1)) (x, 60)).1,
            bk := B, rt := Q } σ H8 := by
      rintro B m rfl σ rfl
      walk_at "rd"
      refine ⟨_, rfl, _, rfl, _, _, k, z.1, rfl, ⟨u, rfl, hrow⟩, ⟨al, rfl, hrl⟩, hok, fun p np => ?_⟩
      refine ⟨.ref p, some (V.ref u), ?_, s9.trans (same_upd np), ?_⟩
      · rw [hst]
        rfl
      · rw [hst]
        exact lnAt_tup upd_same
    have hidx : atI (lnV z.1) (if b then 0 else 1) = some (.int (lside b z.1 : Nat)) := by cases b <;> rfl
    walk_at "rd"
    refine ⟨rfl, _, rfl, ix_row hrow (at_ofA (j := 0) rfl (vs_0 k)) ⟨_, rfl, _, rfl, oV_scal _ _, _, rfl, ?_⟩⟩
    cases hn : need b k with
    | none =>
      refine iteN (need_none b k hn) (fin (fun _ _ => True) _ ?_ _ rfl)
      unfold lrs
      rw [hn]
    | some n =>
      obtain ⟨n1, n2⟩ := need_some b k n hn
      refine iteY n1 ?_
      refine ⟨_, rfl, _, rfl, _, rfl, _, _, _, rfl, rfl, T.c_NUMBERS.at (num_sn b), ix_row hrl hidx ⟨_, rfl, ix_row hrow (at_ofA (j := 1) rfl n2) ⟨_, _, rfl, rfl, _, _, rfl, fin (fun _ _ => True) _ ?_ _ rfl⟩⟩⟩
      unfold lrs
      rw [hn]
      show (if ((lside b z.1 : Nat) : Int) - (n : Int) < z.2 then _ else _) = min z.2 _
      split <;> omega
  · rintro σ H8 ⟨lv', y, rfl, s9, hl9⟩
    rw [hxl, List.take_length]
    walk_at "rd"
    exact ⟨_, rfl, _, _, rfl, rfl, q _ s9⟩
def spReach (K : PySem.W.Frag) : Sp := fun vs H Q _ => ∃ (hv : V) (b : Bool) (ks : List Ky), vs = [hv, .str (sn b)] ∧ HandAt K H hv ks ∧ GoodH ks ∧ ∀ H', Same H H' → Q (.int (60 - (rfold b ks).2)) H'
theorem ok_reach (T : Txt K mg w) : FnOk P w K mg base CX0 3 T.f_reach.f T.f_reach.fd ["hand", "side"] (spReach K) := by
  refine T.f_reach.F.ok sc_reach (fun vs H Q E h => ?_) (fun cdv A outer s H vs Q E hr h => ?_)
  · obtain ⟨hv, b, ks, rfl, _⟩ := h
    rfl
  obtain ⟨hv, b, ks, rfl, hh, gh, q⟩ := h
  refine ⟨_, (pss_cons (ps_if (pt_cmpR op_eq (pv 1) pe_str (nomark _)) (pss_one (ps_ret (pe_call (ok_needed T) (hr.mono (by decide)) (by rfl) T.f_needed.g T.f_needed.F.kp T.f_needed.b .nil pass0 (pa_cons (pv 0) (pa_cons (pv 1) (pa_cons (pe_tup (pa_cons (pe_c_HEAVIEST T) (pa_cons pe_int (pa_cons pe_int pa_nil)))) pa_nil)))))) pss_nil)
      (pss_one (ps_ret (pe_call (ok_needed T) (hr.mono (by decide)) (by rfl) T.f_needed.g T.f_needed.F.kp T.f_needed.b .nil pass0 (pa_cons (pv 0) (pa_cons (pv 1) (pa_cons (pe_tup (pa_cons pe_int (pa_cons (pe_c_HEAVIEST T) (pa_cons pe_int pa_nil)))) pa_nil))))))), ?_⟩
  walk_at "rd"
  rw [rfold_lfold] at q
  cases b with
  | true =>
    refine ⟨_, rfl, rfl, st_yes ⟨_, rfl, _, rfl, by show 3 ≤ sizeLine; decide, fun t nt => ?_⟩⟩
    exact ⟨hv, _, true, ks, x0 true, rfl, hh.same (same_upd nt), gh, lnAt_tup upd_same, fun H' s1 => q _ ((same_upd nt).trans s1)⟩
  | false =>
    refine ⟨_, rfl, rfl, st_no (by decide) ⟨_, rfl, _, rfl, by show 3 ≤ sizeLine; decide, fun t nt => ?_⟩⟩
    exact ⟨hv, _, false, ks, x0 false, rfl, hh.same (same_upd nt), gh, lnAt_tup upd_same, fun H' s1 => q _ ((same_upd nt).trans s1)⟩

/-! ## the reaches of any things -/
def spReachesX (D : Addr) (K : PySem.W.Frag) : Sp := fun vs H Q E => ∃ v d, vs = [v] ∧ At K H v d ∧ (isHandD d = false → ∀ H', Same H H' → E (.ref D) none H') ∧ (isHandD d = true → ∀ p H', Same H H' → Q (.ref p) H')
theorem ok_reaches (T : Txt K mg w) : FnOk P w K mg base (L2.CX P w) 7 T.f_reaches.f T.f_reaches.fd ["hand"] (spReachesX T.x_NoHand.C K) := by
  refine T.f_reaches.F.okX sc_reaches (fun vs H Q E h => ?_) (fun cdv A outer s H vs Q E hr h => ?_)
  · obtain ⟨v, d, rfl, _⟩ := h
    rfl
  obtain ⟨hv, d, rfl, ha, q1, q⟩ := h
  refine ⟨_, (pss_cons (ps_expr (pe_call (ok_check_hand T) (hr.mono (by decide)) (by rfl) T.f_check_hand.g T.f_check_hand.F.kp T.f_check_hand.b .nil (passes_call (takes_of rfl rfl rfl rfl) fun _ _ _ _ h => h) (pa_cons (pv 0) pa_nil)))
      (pss_one (ps_ret (pe_tup (pa_cons (pe_call (ok_reach T) (hr.mono (by decide)) (by rfl) T.f_reach.g T.f_reach.F.kp T.f_reach.b .nil pass0 (pa_cons (pv 0) (pa_cons pe_str pa_nil))) (pa_cons (pe_call (ok_reach T) (hr.mono (by decide)) (by rfl) T.f_reach.g T.f_reach.F.kp T.f_reach.b .nil pass0 (pa_cons (pv 0) (pa_cons pe_str pa_nil))) pa_nil)))))), ?_⟩
  walk_at "rd"
  refine ⟨_, rfl, hv, d, rfl, ha, fun H1 s1 => ⟨fun hd => ?_, fun e => q1 e _ s1⟩⟩
  obtain ⟨ks, hh, gh, _⟩ := hand_of hd ha
  refine ⟨_, rfl, hv, true, ks, rfl, hh.same s1, gh, fun H2 s2 => ⟨_, rfl, hv, false, ks, rfl, (hh.same s1).same s2, gh, fun H3 s3 => ?_⟩⟩
  exact ⟨by show 2 ≤ sizeLine; decide, fun p np => q hd p _ (((s1.trans s2).trans s3).trans (same_upd np))⟩

/-! ## the law's own draws -/
theorem fresh_back' {H H' : Hp} {p : Addr} (e : Same H H') (h : H' p = none) : H p = none := e.free h
def Spr (H : Hp) (p : Addr) : Prop := ∃ F S C : Int, H p = some (.lst [.int F, .int S, .int C]) ∧ 0 ≤ F ∧ 0 ≤ S ∧ S < 2305843009213693951 ∧ 0 ≤ C
/-- all but the spring at p is as it was -/
structure Go (p : Addr) (H H' : Hp) : Prop where
  keep : ∀ b o, b ≠ p → H b = some o → H' b = some o
  spr : Spr H' p
theorem Go.trans {p : Addr} {H H1 H2 : Hp} (a : Go p H H1) (b : Go p H1 H2) : Go p H H2 := ⟨fun c o hc h => b.keep c o hc (a.keep c o hc h), b.spr⟩
theorem Spr.same {p : Addr} {H H' : Hp} (h : Spr H p) (e : Same H H') : Spr H' p := by
  obtain ⟨F, S, C, h1, h2⟩ := h
  exact ⟨F, S, C, e _ _ h1, h2⟩
theorem Go.of_same {p : Addr} {H H' : Hp} (h : Spr H p) (e : Same H H') : Go p H H' := ⟨fun b o _ k => e b o k, h.same e⟩
theorem Go.refl {p : Addr} {H : Hp} (h : Spr H p) : Go p H H := ⟨fun _ _ _ k => k, h⟩
theorem Go.same {p : Addr} {H H1 H2 : Hp} (a : Go p H H1) (e : Same H1 H2) : Go p H H2 := a.trans (.of_same a.spr e)
theorem Spr.ne {p b : Addr} {H : Hp} (h : Spr H p) (hb : H b = none) : b ≠ p := fun z => by
  obtain ⟨F, S, C, h1, _⟩ := h
  rw [z, h1] at hb
  cases hb
theorem pow60 : (10 : Nat) ^ 60 ≤ 2 ^ 200 := by decide +kernel
theorem fig_step {F r : Int} {n : Nat} (h0 : 0 ≤ F) (h : F.natAbs < 2 ^ n) (r0 : 0 ≤ r) (hr : r < 1000000000000000000000000000000000000000000000000000000000000) : 0 ≤ F * 1000000000000000000000000000000000000000000000000000000000000 + r ∧ (F * 1000000000000000000000000000000000000000000000000000000000000 + r).natAbs < 2 ^ (n + 200) := by
  obtain ⟨f, rfl⟩ := Int.eq_ofNat_of_zero_le h0
  obtain ⟨g, rfl⟩ := Int.eq_ofNat_of_zero_le r0
  have e : ((f : Int) * 1000000000000000000000000000000000000000000000000000000000000 + (g : Int)) = ((f * 1000000000000000000000000000000000000000000000000000000000000 + g : Nat) : Int) := by
    rw [Int.natCast_add, Int.natCast_mul]
    rfl
  rw [e]
  refine ⟨Int.natCast_nonneg _, ?_⟩
  rw [Int.natAbs_natCast] at h ⊢
  have hg : g < 1000000000000000000000000000000000000000000000000000000000000 := by omega
  have h1 : f * 1000000000000000000000000000000000000000000000000000000000000 + g < (f + 1) * 1000000000000000000000000000000000000000000000000000000000000 := by
    rw [Nat.add_mul, Nat.one_mul]
    omega
  have h2 : (f + 1) * 1000000000000000000000000000000000000000000000000000000000000 ≤ 2 ^ n * 2 ^ 200 := Nat.mul_le_mul h pow60
  rw [Nat.pow_add]
  exact Nat.lt_of_lt_of_le h1 h2
theorem cut63 (xs : List V) (h : xs.length ≤ 63) : cutV xs none (some 63) = xs := by
  unfold cutV
  rw [HT.sIx_none, show HT.sIx xs.length xs.length (some 63) = min 63 xs.length from HT.sIx_nat xs.length xs.length 63, List.drop_zero, Nat.sub_zero, Nat.min_eq_right h, List.take_length]
def spSpring (K : PySem.W.Frag) : Sp := fun vs H Q _ => ∃ (a : Addr) (ns : List Int), vs = [.ref a] ∧ SqL K H a (ns.map V.int) ∧ ns.length ≤ 63 ∧ ∀ H' p, Same H H' → H p = none → Spr H' p → Q (.ref p) H'
theorem ok__law_spring (T : Txt K mg w) : FnOk P w K mg base CX0 1 T.f__law_spring.f T.f__law_spring.fd ["script"] (spSpring K) := by
  refine T.f__law_spring.F.ok sc__law_spring (fun vs H Q E h => ?_) (fun cdv A outer s H vs Q E hr h => ?_)
  · obtain ⟨v, d, rfl, _⟩ := h
    rfl
  obtain ⟨a, ns, rfl, hs, hlen, q⟩ := h
  refine ⟨_, (pss_cons (ps_set (i := 1) sc__law_spring.nd rfl (.inl rfl) pe_int)
      (pss_cons (ps_set (i := 2) sc__law_spring.nd rfl (.inl rfl) pe_int)
      (pss_cons (ps_for PassesOwn.never rfl (pi_list (pe_slice sl_list (pv 0) po_none (po_some pe_int))) (pg_name (i := 3) sc__law_spring.nd rfl (.inl rfl))
        (pss_cons (ps_if (pt_cmpR op_ge (pe_callB call_abs (by rfl) T.b_abs (by decide +kernel) (pa_cons (pv 3) pa_nil)) (pe_op op_pow pe_int pe_int) (nomark _)) (pss_one (ps_set (i := 1) sc__law_spring.nd rfl (.inl rfl) (pe_op op_add (pe_op op_mulW (pv 1) (pe_op op_pow pe_int pe_int)) (pe_op op_mod (pe_callB call_abs (by rfl) T.b_abs (by decide +kernel) (pa_cons (pv 3) pa_nil)) (pe_op op_pow pe_int pe_int))))) pss_nil)
      (pss_one (ps_set (i := 2) sc__law_spring.nd rfl (.inl rfl) (pe_op op_mod (pe_op op_add (pe_op op_add (pe_op op_mul (pv 2) pe_int) (pe_op op_mod (pv 3) pe_int)) pe_int) pe_int)))))
      (pss_one (ps_ret (pe_lst (pa_cons (pv 1) (pa_cons (pv 2) (pa_cons pe_int pa_nil))))))))), ?_⟩
  walk_at "rd"
  refine fr_list ?_
  walk_at "rd"
  refine ⟨_, rfl, 63, rfl, a, ns.map V.int, rfl, hs, fun b nb => ?_⟩
  rw [cut63 _ (by rw [List.length_map]; exact hlen)]
  refine ⟨b, rfl, ⟨_, SqL.of upd_same⟩, ForGo.list (xs := ns.map V.int)
    (fun i σ H2 => ∃ (F S : Int) (y : Option V), σ = [some (.ref a), some (.int F), some (.int S), y] ∧ H2 = upd H b (.lst (ns.map V.int)) ∧ 0 ≤ F ∧ F.natAbs < 2 ^ (200 * i + 1) ∧ 0 ≤ S ∧ S < 2305843009213693951)
    ⟨0, 88651, none, rfl, rfl, by decide, by decide, by decide, by decide⟩ (fun i σ H2 _ ⟨_, _, _, _, e, _⟩ => by rw [e]; exact SqL.of upd_same) ?_ ?_⟩
  · rintro i x σ H2 hx ⟨F, S, y, rfl, rfl, hF0, hF, hS0, hS⟩
    rw [List.getElem?_map] at hx
    obtain ⟨c, hc, rfl⟩ : ∃ c, ns[i]? = some c ∧ V.int c = x := by
      cases e : ns[i]? with
      | none => rw [e] at hx; cases hx
      | some c => rw [e] at hx; exact ⟨c, rfl, Option.some.inj hx⟩
    have hi : i < ns.length := (List.getElem?_eq_some_iff.mp hc).1
    have hab : 0 ≤ (if c < 0 then -c else c) := by split <;> omega
    have hm1 : 0 ≤ (if c < 0 then -c else c) % 1000000000000000000000000000000000000000000000000000000000000 := Int.emod_nonneg _ (by decide)
    have hm2 : (if c < 0 then -c else c) % 1000000000000000000000000000000000000000000000000000000000000 < 1000000000000000000000000000000000000000000000000000000000000 := Int.emod_lt_of_pos _ (by decide)
    have stp := fig_step hF0 hF hm1 hm2
    walk_at "rd"
    have h60 : (10 : Int) ^ (Int.toNat 60) = 1000000000000000000000000000000000000000000000000000000000000 := by decide +kernel
    have hs1 : 0 ≤ (S * 69069 + c % 2305843009213693921 + 7) % 2305843009213693951 := Int.emod_nonneg _ (by decide)
    have hs2 : (S * 69069 + c % 2305843009213693921 + 7) % 2305843009213693951 < 2305843009213693951 := Int.emod_lt_of_pos _ (by decide)
    have hpw : 2 ^ (200 * i + 1) ≤ 2 ^ (200 * (i + 1) + 1) := Nat.pow_le_pow_right (by decide) (by omega)
    refine ⟨_, rfl, _, rfl, ⟨_, _, rfl, rfl, ⟨by decide, by decide, by decide⟩, _, _, rfl, rfl, _, rfl, ite2 (fun e => ?_) (fun e => ?_)⟩⟩
    · refine ⟨_, rfl, _, _, rfl, rfl, ⟨by decide, by decide, by decide⟩, ?_⟩
      walk_at "rd"
      rw [h60]
      refine ⟨_, _, rfl, rfl, wide_mul hF (b := 200) (by decide +kernel) (by omega) (by decide) (by omega), ?_⟩
      refine ⟨_, rfl, _, rfl, ⟨_, _, rfl, rfl, ⟨by decide, by decide, by decide⟩, ?_⟩⟩
      walk_at "rd"
      rw [h60]
      refine ⟨_, _, rfl, rfl, (show (0 : Int) < 1000000000000000000000000000000000000000000000000000000000000 by decide), _, _, rfl, rfl, ?_⟩
      refine ⟨_, rfl, _, _, rfl, rfl, .inl ⟨by omega, by omega⟩, _, rfl, _, _, rfl, rfl, (show (0 : Int) < 2305843009213693921 by decide), _, _, rfl, rfl, _, _, rfl, rfl, _, _, rfl, rfl, (show (0 : Int) < 2305843009213693951 by decide), ?_⟩
      exact ⟨_, _, _, rfl, rfl, stp.1, Nat.lt_of_lt_of_le stp.2 (Nat.pow_le_pow_right (by decide) (by omega)), hs1, hs2⟩
    · refine ⟨_, rfl, _, _, rfl, rfl, .inl ⟨by omega, by omega⟩, _, rfl, _, _, rfl, rfl, (show (0 : Int) < 2305843009213693921 by decide), _, _, rfl, rfl, _, _, rfl, rfl, _, _, rfl, rfl, (show (0 : Int) < 2305843009213693951 by decide), ?_⟩
      exact ⟨_, _, _, rfl, rfl, hF0, Nat.lt_of_lt_of_le hF hpw, hs1, hs2⟩
  · rintro σ H2 ⟨F, S, y, rfl, rfl, hF0, hF, hS0, hS⟩
    walk_at "rd"
    refine ⟨_, rfl, _, rfl, (by show 3 ≤ sizeLine; decide), fun p np => ?_⟩
    refine q _ p (fun c o e => ?_) ?_ ⟨F, S, 0, upd_same, hF0, hS0, hS, Int.le_refl _⟩
    · rw [upd_ne (ne_of_none ((same_upd nb) c o e) np)]
      exact same_upd nb c o e
    · exact fresh_back' (same_upd nb) np

def spDraw : Sp := fun vs H Q _ => ∃ (p : Addr) (m : Int), vs = [.ref p, .int m] ∧ Spr H p ∧ 0 < m ∧ m.natAbs < 2 ^ 250 ∧ ∀ H' r, Go p H H' → 0 ≤ r → r < m → Q (.int r) H'
theorem go_set {p : Addr} {H : Hp} {F S C : Int} (h1 : 0 ≤ F) (h2 : 0 ≤ S) (h3 : S < 2305843009213693951) (h4 : 0 ≤ C) : Go p H (upd H p (.lst [.int F, .int S, .int C])) :=
  ⟨fun b o hb e => by rw [upd_ne hb]; exact e, F, S, C, upd_same, h1, h2, h3, h4⟩
theorem ok__law_draw (T : Txt K mg w) : FnOk P w K mg base CX0 1 T.f__law_draw.f T.f__law_draw.fd ["spring", "many"] spDraw := by
  refine T.f__law_draw.F.ok sc__law_draw (fun vs H Q E h => ?_) (fun cdv A outer s H vs Q E hr h => ?_)
  · obtain ⟨v, d, rfl, _⟩ := h
    rfl
  obtain ⟨p, m, rfl, ⟨F, S, C, hp, hF, hS, hS2, hC⟩, hm, hm2, q⟩ := h
  refine ⟨_, (pss_cons (ps_if (pt_cmpR op_gt (pe_ix ix_seq (pv 0) pe_int (fun _ _ => rfl)) pe_int (nomark _)) (pss_cons (ps_set (i := 2) sc__law_draw.nd rfl (.inl rfl) (pe_op op_mod (pe_ix ix_seq (pv 0) pe_int (fun _ _ => rfl)) (pv 1)))
      (pss_cons (ps_asg (pe_op op_fdivW (pe_ix ix_seq (pv 0) pe_int (fun _ _ => rfl)) (pv 1)) (pg_sub (pv 0) pe_int set_list))
      (pss_one (ps_ret (pv 2))))) pss_nil)
      (pss_cons (ps_asg (pe_op op_add (pe_ix ix_seq (pv 0) pe_int (fun _ _ => rfl)) pe_int) (pg_sub (pv 0) pe_int set_list))
      (pss_cons (ps_set (i := 3) sc__law_draw.nd rfl (.inl rfl) (pe_op op_mod (pe_op op_mul (pe_ix ix_seq (pv 0) pe_int (fun _ _ => rfl)) (pe_ix ix_seq (pv 0) pe_int (fun _ _ => rfl))) pe_int))
      (pss_cons (ps_asg (pe_op op_mod (pe_op op_add (pe_op op_add (pv 3) (pe_op op_mul (pe_op op_mul pe_int (pe_ix ix_seq (pv 0) pe_int (fun _ _ => rfl))) (pe_ix ix_seq (pv 0) pe_int (fun _ _ => rfl)))) pe_int) pe_int) (pg_sub (pv 0) pe_int set_list))
      (pss_one (ps_ret (pe_op op_mod (pe_op op_fdiv (pe_ix ix_seq (pv 0) pe_int (fun _ _ => rfl)) pe_int) (pv 1)))))))), ?_⟩
  walk_at "rd"
  have at0 : ∀ {a b c : V}, atI [a, b, c] 0 = some a := fun {a b c} => rfl
  refine ⟨_, rfl, ix_lst hp (at_of (j := 0) rfl rfl) ⟨_, _, rfl, rfl, _, rfl, ite2 (fun e => ?_) (fun e => ?_)⟩⟩
  · refine ⟨_, rfl, ix_lst hp (at_of (j := 0) rfl rfl) ⟨_, rfl, _, _, rfl, rfl, hm, ?_⟩⟩
    refine ⟨_, rfl, ix_lst hp (at_of (j := 0) rfl rfl) ⟨_, rfl, _, _, rfl, rfl, wide_div hm hm2 (by decide) (by decide), ?_⟩⟩
    refine ⟨_, rfl, p, _, 0, 0, rfl, rfl, hp, rfl, _, rfl, ?_⟩
    exact q _ _ (go_set (Int.ediv_nonneg hF (by omega)) hS hS2 hC) (Int.emod_nonneg _ (by omega)) (Int.emod_lt_of_pos _ hm)
  · have hq1 : 0 ≤ S * S % 2305843009213693951 := Int.emod_nonneg _ (by decide)
    have hz1 : 0 ≤ (S * S % 2305843009213693951 + 7919 * (C + 1) * S + 104729) % 2305843009213693951 := Int.emod_nonneg _ (by decide)
    have hz2 : (S * S % 2305843009213693951 + 7919 * (C + 1) * S + 104729) % 2305843009213693951 < 2305843009213693951 := Int.emod_lt_of_pos _ (by decide)
    have b1 : -(2 ^ 64) < S ∧ S < 2 ^ 64 := by omega
    refine ⟨_, rfl, ix_lst hp (at_of (j := 2) rfl rfl) ⟨_, _, rfl, rfl, ?_⟩⟩
    refine ⟨_, rfl, p, _, 2, 2, rfl, rfl, hp, rfl, ?_⟩
    have hp2 : (upd H p (.lst [.int F, .int S, .int (C + 1)])) p = some (.lst [.int F, .int S, .int (C + 1)]) := upd_same
    refine ⟨_, rfl, ix_lst hp2 (at_of (j := 1) rfl rfl) ⟨_, rfl, ix_lst hp2 (at_of (j := 1) rfl rfl) ⟨_, _, rfl, rfl, .inl b1, _, _, rfl, rfl, (show (0 : Int) < 2305843009213693951 by decide), ?_⟩⟩⟩
    refine ⟨_, rfl, _, rfl, ix_lst hp2 (at_of (j := 2) rfl rfl) ⟨_, _, rfl, rfl, .inl ⟨by decide, by decide⟩, _, rfl, ix_lst hp2 (at_of (j := 1) rfl rfl) ⟨_, _, rfl, rfl, .inr b1, _, _, rfl, rfl, _, _, rfl, rfl, _, _, rfl, rfl, (show (0 : Int) < 2305843009213693951 by decide), ?_⟩⟩⟩
    refine ⟨_, rfl, p, _, 1, 1, rfl, rfl, hp2, rfl, ?_⟩
    have hp3 : (upd (upd H p (.lst [.int F, .int S, .int (C + 1)])) p (.lst [.int F, .int ((S * S % 2305843009213693951 + 7919 * (C + 1) * S + 104729) % 2305843009213693951), .int (C + 1)])) p = some (.lst [.int F, .int ((S * S % 2305843009213693951 + 7919 * (C + 1) * S + 104729) % 2305843009213693951), .int (C + 1)]) := upd_same
    refine ⟨_, rfl, ix_lst hp3 (at_of (j := 1) rfl rfl) ⟨_, _, rfl, rfl, ⟨by decide, by decide⟩, _, rfl, _, _, rfl, rfl, hm, ?_⟩⟩
    refine q _ _ ?_ (Int.emod_nonneg _ (by omega)) (Int.emod_lt_of_pos _ hm)
    exact ⟨fun b o hb e => by rw [upd_ne hb, upd_ne hb]; exact e, F, _, _, upd_same, hF, hz1, hz2, by omega⟩

/-! ## drawn words and texts -/
theorem pow300 {m : Int} {n : Nat} (h0 : 0 ≤ m) (h : m ≤ (n : Int)) (hn : n < 2 ^ 250) : m.natAbs < 2 ^ 250 := by omega
theorem small300 {m : Int} (h0 : 0 ≤ m) (h : m ≤ 1000000) : m.natAbs < 2 ^ 250 := Nat.lt_of_le_of_lt (show m.natAbs ≤ 1000000 by omega) (by decide)
theorem k_ab : ("ab" : Str) = tx [97, 98] := by decide +kernel
theorem k_a : ("a" : Str) = tx [97] := by decide +kernel
theorem k_zy : ("zy" : Str) = tx [122, 121] := by decide +kernel
def Kind (x : List Nat) : Prop := x ≠ [] ∧ x.length ≤ 26 ∧ Plain x
theorem kinds4 {r : Int} (h0 : 0 ≤ r) (h : r < 4) : ∃ x, atI [V.str "ab", V.str "a", V.str "abcdefghijklmnopqrstuvwxyz", V.str "zy"] r = some (.str (tx x)) ∧ Kind x := by
  have : r = 0 ∨ r = 1 ∨ r = 2 ∨ r = 3 := by omega
  rcases this with rfl | rfl | rfl | rfl
  · exact ⟨[97, 98], by rw [k_ab]; rfl, by simp, by simp, by show List.all _ _ = true; decide⟩
  · exact ⟨[97], by rw [k_a]; rfl, by simp, by simp, by show List.all _ _ = true; decide⟩
  · exact ⟨alpha, by rw [← tx_alpha]; rfl, by simp [alpha], by simp [alpha], by show List.all _ _ = true; decide⟩
  · exact ⟨[122, 121], by rw [k_zy]; rfl, by simp, by simp, by show List.all _ _ = true; decide⟩
theorem plain_mem {x : List Nat} (h : Plain x) {c : Nat} (hc : c ∈ x) : alpha.contains c = true := List.all_eq_true.mp h c hc
def spWord : Sp := fun vs H Q _ => ∃ (p : Addr) (m : Int), vs = [.ref p, .int m] ∧ Spr H p ∧ 1 ≤ m ∧ m ≤ 100000 ∧ ∀ H' x, Go p H H' → x ≠ [] → (x.length : Int) ≤ m → Plain x → Q (.str (tx x)) H'
theorem ok__law_word (T : Txt K mg w) : FnOk P w K mg base CX0 2 T.f__law_word.f T.f__law_word.fd ["spring", "most"] spWord := by
  refine T.f__law_word.F.ok sc__law_word (fun vs H Q E h => ?_) (fun cdv A outer s H vs Q E hr h => ?_)
  · obtain ⟨v, d, rfl, _⟩ := h
    rfl
  obtain ⟨p, m, rfl, hp, hm, hm2, q⟩ := h
  refine ⟨_, (pss_cons (ps_set (i := 2) sc__law_word.nd rfl (.inr rfl) (pe_ix ix_seq (pe_lst (pa_cons pe_str (pa_cons pe_str (pa_cons pe_str (pa_cons pe_str pa_nil))))) (pe_call (ok__law_draw T) (hr.mono (by decide)) (by rfl) T.f__law_draw.g T.f__law_draw.F.kp T.f__law_draw.b .nil pass0 (pa_cons (pv 0) (pa_cons pe_int pa_nil))) (fun _ _ => rfl)))
      (pss_one (ps_ret (pe_join pe_str (pe_lc (own := [("k", 3)]) rfl sc__law_word.nd (pi_range1 (by rfl) T.b_range (pa_cons (pe_op op_add pe_int (pe_call (ok__law_draw T) (hr.mono (by decide)) (by rfl) T.f__law_draw.g T.f__law_draw.F.kp T.f__law_draw.b .nil pass0 (pa_cons (pv 0) (pa_cons (pv 1) pa_nil)))) pa_nil)) (blkOk_by (own := [("k", 3)]) (N := N__law_word) (sc := defScope s__law_word) (by decide +kernel)) (fun _ _ _ _ _ => (pg_name (i := 3) sc__law_word.nd rfl (.inl rfl))) (fun _ _ _ _ _ => pts_nil) (fun _ _ _ _ _ => (pe_ix (ix_seqK K) (pv 2) (pe_call (ok__law_draw T) (hr.mono (by decide)) (by rfl) T.f__law_draw.g T.f__law_draw.F.kp T.f__law_draw.b .nil pass0 (pa_cons (pv 0) (pa_cons (pe_callB (call_lenK K) (by rfl) T.b_len (by decide +kernel) (pa_cons (pv 2) pa_nil)) pa_nil))) (fun _ _ => rfl)))))))), ?_⟩
  walk_at "rd"
  refine ⟨by show 4 ≤ sizeLine; decide, fun l nl => ?_⟩
  have g0 := Go.of_same hp (same_upd (o := .lst [V.str "ab", V.str "a", V.str "abcdefghijklmnopqrstuvwxyz", V.str "zy"]) nl)
  have hlp : l ≠ p := hp.ne nl
  refine ⟨_, rfl, p, 4, rfl, g0.spr, by decide, by decide, fun H1 r g1 r0 r4 => ?_⟩
  obtain ⟨x, hx, hk⟩ := kinds4 r0 r4
  refine ix_lst (g1.keep _ _ hlp upd_same) hx ⟨⟨_, rfl⟩, lc_rng1 ?_⟩
  walk_at "rd"
  refine ⟨_, rfl, _, rfl, p, m, rfl, g1.spr, by omega, small300 (by omega) (by omega), fun H2 n g2 n0 nm => ?_⟩
  refine ⟨_, _, rfl, rfl, _, rfl, by omega, by omega, fun D nD => ?_⟩
  have hDp : D ≠ p := g2.spr.ne nD
  have hn : (1 + n).toNat ≤ m.toNat := by omega
  refine LcGo.range (fun i H3 => Go p H2 H3 ∧ ∃ ws : List Nat, H3 D = some (.lst (ws.map fun c => V.str (tx [c]))) ∧ ws.length = i ∧ Plain ws)
    ⟨.of_same g2.spr (same_upd nD), [], upd_same, rfl, rfl⟩ ?_ ?_
  · rintro i H3 hi ⟨g3, ws, hD, hws, hpl⟩
    walk_at "rd"
    refine ⟨rfl, _, rfl, _, rfl, _, rfl, len_tx (by have := hk.2.1; omega) ⟨p, x.length, rfl, g3.spr, ?_, small300 (by omega) (by have := hk.2.1; omega), fun H4 r g4 r0 rl => ?_⟩⟩
    · have := List.length_pos_iff.mpr hk.1
      omega
    obtain ⟨k, rfl⟩ := Int.eq_ofNat_of_zero_le r0
    have hkl : k < x.length := by omega
    refine ix_tx (show x.length ≤ 1000000 by have := hk.2.1; omega) (at_ofA (j := k) rfl (List.getElem?_eq_getElem hkl)) ?_
    refine ⟨_, g4.keep _ _ hDp hD, ?_, ⟨fun b o hb e => ?_, ?_⟩, ws ++ [x[k]], ?_, ?_, ?_⟩
    · rw [List.length_map, hws]
      exact Nat.lt_of_lt_of_le (show i < 100000 by omega) (by decide)
    · rw [upd_ne (ne_of_none e nD)]
      exact g4.keep b o hb (g3.keep b o hb e)
    · obtain ⟨F, S, C, h1, h2⟩ := g4.spr
      exact ⟨F, S, C, by rw [upd_ne hDp.symm]; exact h1, h2⟩
    · rw [upd_same, List.map_append]
      rfl
    · rw [List.length_append, hws]
      rfl
    · show (ws ++ [x[k]]).all _ = true
      rw [List.all_append, show ws.all (alpha.contains ·) = true from hpl, List.all_cons, plain_mem hk.2.2 (List.getElem_mem hkl)]
      rfl
  · rintro H3 ⟨g3, ws, hD, hws, hpl⟩
    walk_at "rd"
    have hmap : (ws.map fun c => [c]).map tx = ws.map fun c => tx [c] := by rw [List.map_map]; rfl
    have hfl : (ws.map fun c => [c]).flatten = ws := by
      clear hpl hws hmap hD
      induction ws with
      | nil => rfl
      | cons c ws ih => rw [List.map_cons, List.flatten_cons, ih]; rfl
    refine ⟨tx [], D, (ws.map fun c => [c]).map tx, rfl, rfl, .inl (SqL.of ?_), ?_, ?_⟩
    · rw [hmap, List.map_map]
      exact hD
    · have e1 : (((ws.map fun c => [c]).map tx).map (·.length)) = (ws.map fun c => [c]).map (·.length) := by rw [List.map_map]; exact List.map_congr_left fun x _ => tx_len x
      rw [e1, sum_le_len, hfl, tx_len, List.length_nil, Nat.mul_zero, hws]
      omega
    · rw [join_tx, hfl]
      refine q _ _ (((g0.trans g1).trans g2).trans g3) (fun z => ?_) (by omega) hpl
      rw [z] at hws
      have : (1 + n).toNat = 0 := hws.symm
      omega

/-- a drawn text: a list of tuples, none of them the spring -/
def PcT (p : Addr) (H : Hp) (v : V) (x : List Nat × Nat) : Prop := ∃ b, v = .ref b ∧ b ≠ p ∧ H b = some (.tup [.str (tx x.1), .int (x.2 : Int)])
def TxtL (p : Addr) (H : Hp) (a : Addr) (ps : Pcs) : Prop := a ≠ p ∧ ∃ xs, H a = some (.lst xs) ∧ Paired (PcT p H) xs ps
theorem PcT.go {p : Addr} {H H' : Hp} {v : V} {x : List Nat × Nat} (g : Go p H H') (h : PcT p H v x) : PcT p H' v x := by
  obtain ⟨b, rfl, hb, h⟩ := h
  exact ⟨b, rfl, hb, g.keep _ _ hb h⟩
theorem TxtL.go {p : Addr} {H H' : Hp} {a : Addr} {ps : Pcs} (g : Go p H H') (h : TxtL p H a ps) : TxtL p H' a ps := by
  obtain ⟨h1, xs, h2, h3⟩ := h
  exact ⟨h1, xs, g.keep _ _ h1 h2, prd_same (fun _ _ => PcT.go g) h3⟩
def dOf (ps : Pcs) : Dt := .lst (ps.map fun x => .tup [.str x.1, .int (x.2 : Int)])
theorem pcs_dOf (ps : Pcs) : pcs (dOf ps) = ps := by
  unfold pcs dOf
  show (ps.map fun x => Dt.tup [.str x.1, .int (x.2 : Int)]).map pcOf = ps
  rw [List.map_map]
  conv => rhs; rw [← List.map_id ps]
  refine List.map_congr_left fun x _ => ?_
  show ((x.1, ((x.2 : Int)).toNat) : List Nat × Nat) = id x
  rw [Int.toNat_natCast]
  rfl
theorem isText_dOf {ps : Pcs} (h : Good ps) : isText (dOf ps) = true := by
  have hl : ((dOf ps).items).length = ps.length := by
    show (ps.map fun x => Dt.tup [.str x.1, .int (x.2 : Int)]).length = _
    rw [List.length_map]
  have hall : ((dOf ps).items).all isPiece = true := by
    refine List.all_eq_true.mpr fun d hd => ?_
    obtain ⟨x, hx, rfl⟩ := List.mem_map.mp (show d ∈ ps.map fun x => Dt.tup [.str x.1, .int (x.2 : Int)] from hd)
    obtain ⟨hw, hn⟩ := h.ok x hx
    show (true && (isWord (.str x.1) && isWhole (.int (x.2 : Int)) 1)) = true
    have e1 : isWord (.str x.1) = true := by
      show (x.1.all (alpha.contains ·) && decide (x.1.length ≤ 60) && decide (x.1 ≠ [])) = true
      rw [show x.1.all (alpha.contains ·) = true from hw.1, decide_eq_true hw.2.2, decide_eq_true hw.2.1]
      rfl
    have e2 : isWhole (.int (x.2 : Int)) 1 = true := by
      show decide ((1 : Int) ≤ (x.2 : Int)) = true
      exact decide_eq_true (by omega)
    rw [e1, e2]
    rfl
  unfold isText
  rw [hl, hall, decide_eq_true h.few, sum_size hall]
  have e : (size ((dOf ps).items.map pcOf) : Int) = (size ps : Int) := by
    have := pcs_dOf ps
    unfold pcs at this
    rw [this]
  rw [e, decide_eq_true (by have := h.all; have : ((10 ^ 30 : Nat) : Int) = (10 ^ 30 : Int) := by decide
                            omega)]
  rfl
theorem TxtL.at {K : PySem.W.Frag} {p : Addr} {H : Hp} {a : Addr} {ps : Pcs} (h : TxtL p H a ps) (hg : ∀ x ∈ ps, x.1.length ≤ 60) : At K H (.ref a) (dOf ps) := by
  obtain ⟨_, xs, h2, h3⟩ := h
  unfold dOf At
  refine ⟨a, xs, rfl, SqL.of h2, ?_⟩
  clear h2
  induction h3 with
  | nil => unfold Ats; rfl
  | @cons v x xs ps hv t ih =>
    rw [List.map_cons]
    unfold Ats
    refine ⟨_, _, rfl, ?_, ih fun y hy => hg y (List.mem_cons_of_mem _ hy)⟩
    obtain ⟨b, rfl, _, hb⟩ := hv
    unfold At
    refine ⟨b, _, rfl, SqT.of hb, ?_⟩
    unfold Ats
    refine ⟨_, _, rfl, by unfold At; exact ⟨rfl, Nat.le_trans (hg x (List.mem_cons_self ..)) (by decide)⟩, ?_⟩
    unfold Ats
    refine ⟨_, _, rfl, by unfold At; rfl, ?_⟩
    unfold Ats
    rfl

theorem go_new {p t : Addr} {H H' : Hp} {o : HO} (g : Go p H H') (nt : H' t = none) : Go p H (upd H' t o) := g.same (same_upd nt)
theorem go_mut {p o : Addr} {H H' : Hp} {x : HO} (g : Go p H H') (no : H o = none) (hop : o ≠ p) : Go p H (upd H' o x) := by
  refine ⟨fun b u hb e => by rw [upd_ne (ne_of_none e no)]; exact g.keep b u hb e, ?_⟩
  obtain ⟨F, S, C, h1, h2⟩ := g.spr
  exact ⟨F, S, C, by rw [upd_ne hop.symm]; exact h1, h2⟩

def KeyT (p : Addr) (H : Hp) (v : V) (k : Ky) : Prop := ∃ b, v = .ref b ∧ b ≠ p ∧ H b = some (.tup k.vs)
def HandL (p : Addr) (H : Hp) (a : Addr) (ks : List Ky) : Prop := a ≠ p ∧ ∃ xs, H a = some (.lst xs) ∧ Paired (KeyT p H) xs ks
theorem KeyT.go {p : Addr} {H H' : Hp} {v : V} {k : Ky} (g : Go p H H') (h : KeyT p H v k) : KeyT p H' v k := by
  obtain ⟨b, rfl, hb, h⟩ := h
  exact ⟨b, rfl, hb, g.keep _ _ hb h⟩
theorem HandL.go {p : Addr} {H H' : Hp} {a : Addr} {ks : List Ky} (g : Go p H H') (h : HandL p H a ks) : HandL p H' a ks := by
  obtain ⟨ha, xs, h1, h2⟩ := h
  exact ⟨ha, xs, g.keep _ _ ha h1, prd_same (fun _ _ => KeyT.go g) h2⟩
theorem HandL.at {K : PySem.W.Frag} {p : Addr} {H : Hp} {a : Addr} {ks : List Ky} (h : HandL p H a ks) : HandAt K H (.ref a) ks := by
  obtain ⟨ha, xs, h1, h2⟩ := h
  refine ⟨a, xs, rfl, .inl (SqL.of h1), prd_same (fun v k hk => ?_) h2⟩
  obtain ⟨b, rfl, _, hb⟩ := hk
  exact ⟨b, rfl, .inr (SqT.of hb)⟩
theorem prd_fr {p a : Addr} {H H' : Hp} {xs zs : List V} {ks : List Ky} (ha : H a = some (.lst zs)) (fr : ∀ b o, b ≠ a → b ≠ p → H b = some o → H' b = some o) (h : Paired (KeyT p H) xs ks) : Paired (KeyT p H') xs ks :=
  prd_same (fun v k ⟨b, e, hb, hk⟩ => ⟨b, e, hb, fr b _ (fun z => by rw [z, ha] at hk; cases hk) hb hk⟩) h
theorem set_last {α : Type} (xs : List α) (u v : α) : (xs ++ [u]).set xs.length v = xs ++ [v] := by
  rw [List.set_append_right _ _ (Nat.le_refl _), Nat.sub_self]
  rfl
theorem ixN_last {α : Type} (xs : List α) (u : α) : ixN (xs ++ [u]).length (-1) = some xs.length := by
  rw [List.length_append]
  unfold ixN
  simp
  try omega
theorem prd_app {α β : Type} {R : α → β → Prop} : ∀ {xs : List α} {ys : List β} {us : List α} {vs : List β}, Paired R xs ys → Paired R us vs → Paired R (xs ++ us) (ys ++ vs)
  | _, _, _, _, .nil, h => h
  | _, _, _, _, .cons r t, h => .cons r (prd_app t h)
theorem mvk (z : Str) (h : z ∈ (["left", "right", "strike", "rub", "copy", "cut"] : List Str)) (n : Nat) : ∃ k : Ky, k.vs = [.str z, .int n] ∧ k.wt = n ∧ (1 ≤ n → k.ok) ∧ z ≠ "write" ∧ z ≠ "paste" := by
  simp only [List.mem_cons, List.not_mem_nil, or_false] at h
  rcases h with rfl | rfl | rfl | rfl | rfl | rfl
  · exact ⟨.left n, rfl, rfl, id, by decide, by decide⟩
  · exact ⟨.right n, rfl, rfl, id, by decide, by decide⟩
  · exact ⟨.strike n, rfl, rfl, id, by decide, by decide⟩
  · exact ⟨.rub n, rfl, rfl, id, by decide, by decide⟩
  · exact ⟨.copy n, rfl, rfl, id, by decide, by decide⟩
  · exact ⟨.cut n, rfl, rfl, id, by decide, by decide⟩
theorem names8 {r : Int} (h0 : 0 ≤ r) (h : r < 8) : ∃ z : Str, atI [V.str "left", V.str "right", V.str "strike", V.str "rub", V.str "copy", V.str "cut", V.str "write", V.str "paste"] r = some (.str z) ∧ (z = "write" ∨ z = "paste" ∨ z ∈ (["left", "right", "strike", "rub", "copy", "cut"] : List Str)) := by
  obtain ⟨n, rfl⟩ := Int.eq_ofNat_of_zero_le h0
  have hn : n < 8 := by omega
  match n, hn with
  | 0, _ => exact ⟨"left", at_ofA (j := 0) rfl rfl, .inr (.inr (by decide))⟩
  | 1, _ => exact ⟨"right", at_ofA (j := 1) rfl rfl, .inr (.inr (by decide))⟩
  | 2, _ => exact ⟨"strike", at_ofA (j := 2) rfl rfl, .inr (.inr (by decide))⟩
  | 3, _ => exact ⟨"rub", at_ofA (j := 3) rfl rfl, .inr (.inr (by decide))⟩
  | 4, _ => exact ⟨"copy", at_ofA (j := 4) rfl rfl, .inr (.inr (by decide))⟩
  | 5, _ => exact ⟨"cut", at_ofA (j := 5) rfl rfl, .inr (.inr (by decide))⟩
  | 6, _ => exact ⟨"write", at_ofA (j := 6) rfl rfl, .inl rfl⟩
  | 7, _ => exact ⟨"paste", at_ofA (j := 7) rfl rfl, .inr (.inl rfl)⟩
def knames : List Str := ["left", "right", "strike", "rub", "copy", "cut", "write", "paste"]
def spLHand : Sp := fun vs H Q _ => ∃ (p : Addr) (m v : Int), vs = [.ref p, .int m, .int v] ∧ Spr H p ∧ 0 ≤ m ∧ m ≤ 1000 ∧ 1 ≤ v ∧ v ≤ 1000 ∧ ∀ H' a ks, Go p H H' → H a = none → HandL p H' a ks → (∀ k ∈ ks, k.ok) → hwt ks ≤ 60 → Q (.ref a) H'
theorem ok__law_hand (T : Txt K mg w) : FnOk P w K mg base CX0 3 T.f__law_hand.f T.f__law_hand.fd ["spring", "most", "wide"] spLHand := by
  refine T.f__law_hand.F.ok sc__law_hand (fun vs H Q E h => ?_) (fun cdv A outer s H vs Q E hr h => ?_)
  · obtain ⟨p, m, v, rfl, _⟩ := h
    rfl
  obtain ⟨p, m, v, rfl, hp, m0, m1, v0, v1, q⟩ := h
  refine ⟨_, (pss_cons (ps_set (i := 3) sc__law_hand.nd rfl (.inl rfl) (pe_lst pa_nil))
      (pss_cons (ps_set (i := 4) sc__law_hand.nd rfl (.inl rfl) pe_int)
      (pss_cons (ps_for PassesOwn.never rfl (pi_range1 (by rfl) T.b_range (pa_cons (pe_call (ok__law_draw T) (hr.mono (by decide)) (by rfl) T.f__law_draw.g T.f__law_draw.F.kp T.f__law_draw.b .nil pass0 (pa_cons (pv 0) (pa_cons (pe_op op_add (pv 1) pe_int) pa_nil))) pa_nil)) (pg_name (i := 5) sc__law_hand.nd rfl (.inl rfl))
        (pss_cons (ps_set (i := 6) sc__law_hand.nd rfl (.inl rfl) (pe_callB (call_min2 rfl) (by rfl) T.b_min (by decide +kernel) (pa_cons (pv 4) (pa_cons (pe_op op_add pe_int (pe_call (ok__law_draw T) (hr.mono (by decide)) (by rfl) T.f__law_draw.g T.f__law_draw.F.kp T.f__law_draw.b .nil pass0 (pa_cons (pv 0) (pa_cons (pv 2) pa_nil)))) pa_nil))))
      (pss_cons (ps_set (i := 7) sc__law_hand.nd rfl (.inl rfl) (pe_ix ix_seq (pe_lst (pa_cons pe_str (pa_cons pe_str (pa_cons pe_str (pa_cons pe_str (pa_cons pe_str (pa_cons pe_str (pa_cons pe_str (pa_cons pe_str pa_nil))))))))) (pe_call (ok__law_draw T) (hr.mono (by decide)) (by rfl) T.f__law_draw.g T.f__law_draw.F.kp T.f__law_draw.b .nil pass0 (pa_cons (pv 0) (pa_cons pe_int pa_nil))) (fun _ _ => rfl)))
      (pss_one (ps_if (pt_cmpR op_gt (pv 4) pe_int (nomark _)) (pss_cons (ps_expr (pe_bm PySem.F.plainAttrs_list PySem.F.slot_list_append PySem.F.type_list_append mt_append (pv 3) (pa_cons (pe_tup (pa_cons (pv 7) (pa_cons (pv 6) pa_nil))) pa_nil)))
      (pss_cons (ps_if (pt_cmpR op_eq (pv 7) pe_str (nomark _)) (pss_one (ps_asg (pe_tup (pa_cons (pv 7) (pa_cons (pe_slice sl_str (pe_op op_add_str (pe_call (ok__law_word T) (hr.mono (by decide)) (by rfl) T.f__law_word.g T.f__law_word.F.kp T.f__law_word.b .nil pass0 (pa_cons (pv 0) (pa_cons (pv 6) pa_nil))) (pe_op op_mul_str pe_str pe_int)) po_none (po_some (pv 6))) pa_nil))) (pg_sub (pv 3) (pe_un un_neg pe_int) set_list))) pss_nil)
      (pss_cons (ps_if (pt_cmpR op_eq (pv 7) pe_str (nomark _)) (pss_one (ps_asg (pe_tup (pa_cons (pv 7) pa_nil)) (pg_sub (pv 3) (pe_un un_neg pe_int) set_list))) pss_nil)
      (pss_one (ps_set (i := 4) sc__law_hand.nd rfl (.inl rfl) (pe_op op_sub (pv 4) (pe_ifExp (pt_cmpR op_eq (pv 7) pe_str (nomark _)) pe_int (pv 6)))))))) pss_nil)))))
      (pss_one (ps_ret (pv 3)))))), ?_⟩
  walk_at "rd"
  refine ⟨by show 0 ≤ sizeLine; decide, fun a na => ?_⟩
  have hap : a ≠ p := hp.ne na
  have g0 := Go.of_same hp (same_upd (o := .lst []) na)
  refine fr_rng1 ?_
  walk_at "rd"
  refine ⟨_, rfl, _, rfl, _, _, rfl, rfl, p, _, rfl, g0.spr, by omega, small300 (by omega) (by omega), fun H1 n g1 n0 nm => ⟨_, rfl, by omega, by omega, ?_⟩⟩
  have g1 := g0.trans g1
  have ha1 : H1 a = some (.lst []) := by
    rename_i g2
    exact g2.keep _ _ hap upd_same
  refine ForGo.range (fun i σ H' => ∃ (room : Nat) (ks : List Ky) (x y z : Option V), σ = [some (.ref p), some (.int m), some (.int v), some (.ref a), some (.int room), x, y, z] ∧ Go p H H' ∧ HandL p H' a ks ∧ (∀ k ∈ ks, k.ok) ∧ hwt ks + room ≤ 60)
    ⟨60, [], none, none, none, rfl, g1, ⟨hap, [], ha1, .nil⟩, (fun k h => by cases h), Nat.le_refl _⟩ ?_ ?_
  · rintro i σ H2 hi ⟨room, ks, x, y, z, rfl, g2, hL, hok, hwr⟩
    walk_at "rd"
    refine ⟨_, rfl, _, rfl, _, rfl, p, v, rfl, g2.spr, by omega, small300 (by omega) (by omega), fun H3 n3 g3 n30 n3v => ?_⟩
    have hsz : ∃ sz : Nat, (if 1 + n3 < (room : Int) then 1 + n3 else (room : Int)) = (sz : Int) ∧ sz ≤ room ∧ (1 ≤ room → 1 ≤ sz) := by
      refine ⟨(if 1 + n3 < (room : Int) then 1 + n3 else (room : Int)).toNat, ?_, ?_, fun h => ?_⟩ <;> split <;> omega
    obtain ⟨sz, esz, hszr, hsz1⟩ := hsz
    have g3 := g2.trans g3
    refine ⟨_, _, rfl, rfl, _, _, rfl, by show 8 ≤ sizeLine; decide, fun l nl => ?_⟩
    rw [esz]
    have hlp : l ≠ p := g3.spr.ne nl
    have g4 := g3.same (same_upd (o := .lst [V.str "left", V.str "right", V.str "strike", V.str "rub", V.str "copy", V.str "cut", V.str "write", V.str "paste"]) nl)
    refine ⟨_, rfl, p, 8, rfl, g4.spr, by decide, by decide, fun H4 r g5 r0 r8 => ?_⟩
    obtain ⟨zn, hz, hzn⟩ := names8 r0 r8
    refine ix_lst (g5.keep _ _ hlp upd_same) hz ?_
    have g5 := g4.trans g5
    have hL : HandL p H4 a ks := by
      rename_i gg3 gg5
      exact ((hL.go gg3).go (.of_same gg3.spr (same_upd nl))).go gg5
    clear hz
    refine ⟨_, rfl, _, _, rfl, rfl, _, rfl, ite2 (fun hroom => ?_) (fun hroom => ?_)⟩
    · have hroom : 0 < (room : Int) := of_decide_eq_true hroom
      have hsz1 := hsz1 (by omega)
      obtain ⟨_, xs, hxs, hpx⟩ := hL
      have hlx : xs.length = ks.length := prd_len hpx
      have hkl := len_hwt hok
      refine ⟨_, rfl, .inl ⟨rfl, _, SqL.of hxs⟩, _, rfl, _, rfl, by show 2 ≤ sizeLine; decide, fun t nt => ?_⟩
      have hta : t ≠ a := fun e => by rw [e, hxs] at nt; cases nt
      have htp : t ≠ p := g5.spr.ne nt
      refine ⟨a, xs, _, rfl, rfl, by rw [upd_ne hta.symm]; exact hxs, Nat.lt_of_le_of_lt (show xs.length ≤ 60 by omega) (by decide), ?_⟩
      have g6 : Go p H (upd (upd H4 t (.tup [.str zn, .int sz])) a (.lst (xs ++ [.ref t]))) := by
        refine ⟨fun b o hb e => ?_, ?_⟩
        · have hba : b ≠ a := fun e2 => by rw [e2, na] at e; cases e
          have e4 := g5.keep b o hb e
          rw [upd_ne hba, upd_ne (fun e2 => by rw [e2, nt] at e4; cases e4)]
          exact e4
        · obtain ⟨F, S, C, h1, h2⟩ := g5.spr
          exact ⟨F, S, C, by rw [upd_ne hap.symm, upd_ne htp.symm]; exact h1, h2⟩
      have fr5 : ∀ b o, b ≠ a → b ≠ p → H4 b = some o → (upd (upd H4 t (.tup [.str zn, .int sz])) a (.lst (xs ++ [.ref t]))) b = some o := fun b o hba _ e => by
        rw [upd_ne hba, upd_ne (fun e2 => by rw [e2, nt] at e; cases e)]
        exact e
      have hpx5 := prd_fr hxs fr5 hpx
      have hA5 : (upd (upd H4 t (.tup [.str zn, .int sz])) a (.lst (xs ++ [.ref t]))) a = some (.lst (xs ++ [.ref t])) := upd_same
      have hT5 : (upd (upd H4 t (.tup [.str zn, .int sz])) a (.lst (xs ++ [.ref t]))) t = some (.tup [.str zn, .int sz]) := by rw [upd_ne hta, upd_same]
      generalize upd (upd H4 t (.tup [.str zn, .int sz])) a (.lst (xs ++ [.ref t])) = H5 at *
      have okA : ∀ k : Ky, k.ok → ∀ k' ∈ ks ++ [k], k'.ok := fun k hk k' h => by
        rcases List.mem_append.mp h with h | h
        · exact hok k' h
        · rw [List.mem_singleton.mp h]
          exact hk
      have wtA : ∀ k : Ky, k.wt ≤ room → hwt (ks ++ [k]) + (room - k.wt) ≤ 60 := fun k hk => by
        rw [hwt_app, hwt_cons]
        show hwt ks + (k.wt + 0) + (room - k.wt) ≤ 60
        omega
      have put : ∀ (H6 : Hp), Go p H5 H6 → ∀ (t2 : Addr) (k : Ky) (zs : List V), k.vs = zs → H6 t2 = none →
          (upd H6 t2 (.tup zs)) a = some (.lst (xs ++ [.ref t])) ∧ Go p H (upd (upd H6 t2 (.tup zs)) a (.lst (xs ++ [.ref t2]))) ∧ HandL p (upd (upd H6 t2 (.tup zs)) a (.lst (xs ++ [.ref t2]))) a (ks ++ [k]) := fun H6 g7 t2 k zs hzs nt2 => by
        subst hzs
        have hA6 := g7.keep _ _ hap hA5
        have h2a : t2 ≠ a := fun e => by rw [e, hA6] at nt2; cases nt2
        have h2p : t2 ≠ p := g7.spr.ne nt2
        have hA7 : (upd H6 t2 (.tup k.vs)) a = some (.lst (xs ++ [.ref t])) := by rw [upd_ne h2a.symm]; exact hA6
        have fr7 : ∀ b o, b ≠ a → b ≠ p → H5 b = some o → (upd (upd H6 t2 (.tup k.vs)) a (.lst (xs ++ [.ref t2]))) b = some o := fun b o hba hbp e => by
          have e6 := g7.keep b o hbp e
          rw [upd_ne hba, upd_ne (fun e2 => by rw [e2, nt2] at e6; cases e6)]
          exact e6
        refine ⟨hA7, ⟨fun b o hb e => fr7 b o (fun e2 => by rw [e2, na] at e; cases e) hb (g6.keep b o hb e), ?_⟩, hap, xs ++ [.ref t2], upd_same, prd_app (prd_fr hA5 fr7 hpx5) (.cons ⟨t2, rfl, h2p, by rw [upd_ne h2a, upd_same]⟩ .nil)⟩
        obtain ⟨F, S, C, h1, h2⟩ := g7.spr
        exact ⟨F, S, C, by rw [upd_ne hap.symm, upd_ne h2p.symm]; exact h1, h2⟩
      rcases hzn with rfl | rfl | hzn
      · -- write
        refine ⟨_, rfl, rfl, st_yes ⟨_, rfl, _, rfl, _, rfl, p, sz, rfl, g6.spr, by omega, by omega, fun H6 wd g7 wne wl wpl => ?_⟩⟩
        refine ⟨tx [120], 60, rfl, rfl, mul_ok (n := 60) 1 60 (Nat.le_refl _) (Nat.le_refl _) (by decide) (by decide), ?_⟩
        rw [show Txt.mul (tx [120]) 60 = tx (List.replicate 60 [120]).flatten from mul_tx [120] 60]
        have h60 : (List.replicate 60 [120]).flatten = List.replicate 60 120 := by decide
        rw [h60]
        refine ⟨_, _, rfl, rfl, ?_, _, rfl, _, rfl, ?_⟩
        · rw [tx_len, tx_len, List.length_replicate]
          exact Nat.le_trans (show wd.length + 60 ≤ 200 by omega) (by decide)
        rw [tx_app]
        refine ⟨_, rfl, ?_, ?_⟩
        · rw [tx_len, List.length_append, List.length_replicate]
          exact Nat.le_trans (show wd.length + 60 ≤ 200 by omega) (by decide)
        rw [cut__n]
        have hwl : ((wd ++ List.replicate 60 120).take sz).length = sz := by
          rw [List.length_take, List.length_append, List.length_replicate]
          omega
        have hwp : Plain ((wd ++ List.replicate 60 120).take sz) := by
          refine List.all_eq_true.mpr fun c hc => ?_
          rcases List.mem_append.mp (List.mem_of_mem_take hc) with hc | hc
          · exact plain_mem wpl hc
          · rw [List.eq_of_mem_replicate hc]
            decide
        generalize (wd ++ List.replicate 60 120).take sz = w2 at *
        have hok2 : (Ky.write w2).ok := ⟨fun e => by rw [e] at hwl; simp at hwl; omega, by omega, hwp⟩
        refine ⟨by show 2 ≤ sizeLine; decide, fun t2 nt2 => ?_⟩
        obtain ⟨u1, u2, u3⟩ := put H6 g7 t2 (.write w2) [.str "write", .str (tx w2)] rfl nt2
        refine ⟨_, rfl, _, rfl, a, xs ++ [.ref t], -1, xs.length, rfl, rfl, u1, ixN_last _ _, ?_⟩
        rw [set_last]
        walk_at "rd"
        refine ⟨_, rfl, rfl, st_no (by decide) ⟨_, rfl, _, rfl, rfl, st_no (by decide) ⟨_, rfl, _, _, rfl, rfl, room - sz, ks ++ [.write w2], some (.int (0 + i)), some (.int sz), some (.str "write"), ?_, u2, u3, okA _ hok2, ?_⟩⟩⟩
        · have e : ((room : Int) - (sz : Int)) = ((room - sz : Nat) : Int) := by omega
          dsimp only
          rw [e]
          rfl
        · have := wtA (.write w2) (show w2.length ≤ room by omega)
          rw [show (Ky.write w2).wt = sz from hwl] at this
          exact this
      · -- paste
        refine ⟨_, rfl, rfl, st_no (by decide) ⟨_, rfl, rfl, st_yes ⟨_, rfl, by show 1 ≤ sizeLine; decide, fun t2 nt2 => ?_⟩⟩⟩
        obtain ⟨u1, u2, u3⟩ := put H5 (.refl g6.spr) t2 .paste [.str "paste"] rfl nt2
        refine ⟨_, rfl, _, rfl, a, xs ++ [.ref t], -1, xs.length, rfl, rfl, u1, ixN_last _ _, ?_⟩
        rw [set_last]
        walk_at "rd"
        refine ⟨_, rfl, _, rfl, rfl, st_yes ⟨_, _, rfl, rfl, room - 1, ks ++ [.paste], some (.int (0 + i)), some (.int sz), some (.str "paste"), ?_, u2, u3, okA .paste trivial, wtA .paste (show 1 ≤ room by omega)⟩⟩
        have e : ((room : Int) - 1) = ((room - 1 : Nat) : Int) := by omega
        dsimp only
        rw [e]
        rfl
      · obtain ⟨k, kvs, kwt, kok, z1, z2⟩ := mvk zn hzn sz
        refine ⟨_, rfl, rfl, st_no z1 ⟨_, rfl, rfl, st_no z2 ?_⟩⟩
        refine ⟨_, rfl, _, rfl, rfl, st_no z2 ⟨_, rfl, _, _, rfl, rfl, room - sz, ks ++ [k], some (.int (0 + i)), some (.int sz), some (.str zn), ?_, g6, ⟨hap, xs ++ [.ref t], hA5, prd_app hpx5 (.cons ⟨t, rfl, htp, by rw [kvs]; exact hT5⟩ .nil)⟩, okA _ (kok hsz1), ?_⟩⟩
        · have e : ((room : Int) - (sz : Int)) = ((room - sz : Nat) : Int) := by omega
          dsimp only
          rw [e]
          rfl
        · have := wtA k (by omega)
          rw [kwt] at this
          exact this
    · exact ⟨room, ks, _, _, _, rfl, g5, hL, hok, hwr⟩
  · rintro σ H2 ⟨room, ks, x, y, z, rfl, g2, hL, hok, hwr⟩
    walk_at "rd"
    exact ⟨_, rfl, q _ a ks g2 na hL hok (by omega)⟩

def spLSheet : Sp := fun vs H Q _ => ∃ (p : Addr) (m : Int), vs = [.ref p, .int m] ∧ Spr H p ∧ 0 ≤ m ∧ m ≤ 5000 ∧ ∀ H' a s, Go p H H' → a ≠ p → H' a = some (.tup (Sh.vs s)) → GoodS s → (s.w.length : Int) ≤ m → Q (.ref a) H'
theorem plain_sub {x y : List Nat} (h : Plain x) (hs : ∀ c ∈ y, c ∈ x) : Plain y := List.all_eq_true.mpr fun c hc => plain_mem h (hs c hc)
theorem ok__law_sheet (T : Txt K mg w) : FnOk P w K mg base CX0 3 T.f__law_sheet.f T.f__law_sheet.fd ["spring", "most"] spLSheet := by
  refine T.f__law_sheet.F.ok sc__law_sheet (fun vs H Q E h => ?_) (fun cdv A outer s H vs Q E hr h => ?_)
  · obtain ⟨p, m, rfl, _⟩ := h
    rfl
  obtain ⟨p, m, rfl, hp, m0, m1, q⟩ := h
  refine ⟨_, (pss_cons (ps_set (i := 2) sc__law_sheet.nd rfl (.inl rfl) (pe_slice sl_str (pe_op op_add_str (pe_call (ok__law_word T) (hr.mono (by decide)) (by rfl) T.f__law_word.g T.f__law_word.F.kp T.f__law_word.b .nil pass0 (pa_cons (pv 0) (pa_cons (pe_op op_add (pv 1) pe_int) pa_nil))) pe_str) (po_some pe_int) po_none))
      (pss_cons (ps_set (i := 3) sc__law_sheet.nd rfl (.inl rfl) (pe_ix ix_seq (pe_lst (pa_cons pe_int (pa_cons (pe_callB (call_lenK K) (by rfl) T.b_len (by decide +kernel) (pa_cons (pv 2) pa_nil)) (pa_cons (pe_call (ok__law_draw T) (hr.mono (by decide)) (by rfl) T.f__law_draw.g T.f__law_draw.F.kp T.f__law_draw.b .nil pass0 (pa_cons (pv 0) (pa_cons (pe_op op_add (pe_callB (call_lenK K) (by rfl) T.b_len (by decide +kernel) (pa_cons (pv 2) pa_nil)) pe_int) pa_nil))) pa_nil)))) (pe_call (ok__law_draw T) (hr.mono (by decide)) (by rfl) T.f__law_draw.g T.f__law_draw.F.kp T.f__law_draw.b .nil pass0 (pa_cons (pv 0) (pa_cons pe_int pa_nil))) (fun _ _ => rfl)))
      (pss_cons (ps_set (i := 4) sc__law_sheet.nd rfl (.inl rfl) (pe_slice sl_str (pe_call (ok__law_word T) (hr.mono (by decide)) (by rfl) T.f__law_word.g T.f__law_word.F.kp T.f__law_word.b .nil pass0 (pa_cons (pv 0) (pa_cons pe_int pa_nil))) po_none (po_some (pe_ix ix_seq (pe_lst (pa_cons pe_int (pa_cons pe_int (pa_cons pe_int pa_nil)))) (pe_call (ok__law_draw T) (hr.mono (by decide)) (by rfl) T.f__law_draw.g T.f__law_draw.F.kp T.f__law_draw.b .nil pass0 (pa_cons (pv 0) (pa_cons pe_int pa_nil))) (fun _ _ => rfl)))))
      (pss_one (ps_ret (pe_tup (pa_cons (pv 2) (pa_cons (pv 3) (pa_cons (pv 4) pa_nil))))))))), ?_⟩
  walk_at "rd"
  refine ⟨_, rfl, _, rfl, _, _, rfl, rfl, p, _, rfl, hp, by omega, by omega, fun H1 x g1 xne xl xpl => ?_⟩
  refine ⟨_, _, rfl, rfl, by rw [tx_len]; exact Nat.le_trans (show x.length + 0 ≤ 6000 by omega) (by decide), 1, rfl, _, rfl, ?_, ?_⟩
  · rw [← tx_nil, tx_app, tx_len, List.append_nil]
    exact Nat.le_trans (show x.length ≤ 6000 by omega) (by decide)
  rw [← tx_nil, tx_app, List.append_nil, show (1 : Int) = ((1 : Nat) : Int) from rfl, cut_n_]
  have hwl : ((x.drop 1).length : Int) ≤ m := by rw [List.length_drop]; omega
  have hwp : Plain (x.drop 1) := plain_sub xpl fun c hc => List.mem_of_mem_drop hc
  generalize x.drop 1 = wd at *
  refine ⟨_, rfl, len_tx (by omega) ⟨_, rfl, _, rfl, len_tx (by omega) ⟨_, _, rfl, rfl, p, _, rfl, g1.spr, by omega, small300 (by omega) (by omega), fun H2 r2 g2 r20 r2l => ?_⟩⟩⟩
  refine ⟨by show 3 ≤ sizeLine; decide, fun l nl => ⟨_, rfl, p, 3, rfl, (g2.spr).same (same_upd nl), by decide, by decide, fun H3 r3 g3 r30 r33 => ?_⟩⟩
  have hlp : l ≠ p := g2.spr.ne nl
  have hcur : ∃ n : Nat, atI [V.int 0, V.int (wd.length : Int), V.int r2] r3 = some (.int (n : Int)) ∧ n ≤ wd.length := by
    obtain ⟨i, rfl⟩ := Int.eq_ofNat_of_zero_le r30
    have hi : i < 3 := by omega
    match i, hi with
    | 0, _ => exact ⟨0, at_ofA (j := 0) rfl rfl, Nat.zero_le _⟩
    | 1, _ => exact ⟨wd.length, at_ofA (j := 1) rfl rfl, Nat.le_refl _⟩
    | 2, _ => exact ⟨r2.toNat, at_ofA (j := 2) rfl (by rw [Int.toNat_of_nonneg r20]; rfl), by omega⟩
  obtain ⟨n, hn, hnl⟩ := hcur
  have g3a : Go p H H3 := ((g1.trans g2).same (same_upd nl)).trans g3
  refine ix_lst (g3.keep _ _ hlp upd_same) hn ?_
  refine ⟨_, rfl, p, 60, rfl, g3a.spr, by decide, by decide, fun H4 y g4 yne yl ypl => ⟨by show 3 ≤ sizeLine; decide, fun l2 nl2 => ?_⟩⟩
  have hl2p : l2 ≠ p := g4.spr.ne nl2
  refine ⟨_, rfl, p, 3, rfl, g4.spr.same (same_upd nl2), by decide, by decide, fun H5 r5 g5 r50 r53 => ?_⟩
  have hcl : ∃ j : Nat, atI [V.int 0, V.int 3, V.int 60] r5 = some (.int (j : Int)) := by
    obtain ⟨i, rfl⟩ := Int.eq_ofNat_of_zero_le r50
    have hi : i < 3 := by omega
    match i, hi with
    | 0, _ => exact ⟨0, at_ofA (j := 0) rfl rfl⟩
    | 1, _ => exact ⟨3, at_ofA (j := 1) rfl rfl⟩
    | 2, _ => exact ⟨60, at_ofA (j := 2) rfl rfl⟩
  obtain ⟨j, hj⟩ := hcl
  refine ix_lst (g5.keep _ _ hl2p upd_same) hj ⟨_, rfl, tx y, rfl, by rw [tx_len]; exact Nat.le_trans (show y.length ≤ 60 by omega) (by decide), ?_⟩
  rw [cut__n]
  have g5a : Go p H H5 := ((g3a.trans g4).same (same_upd nl2)).trans g5
  refine ⟨_, rfl, _, rfl, _, rfl, by show 3 ≤ sizeLine; decide, fun t nt => q _ t ⟨wd, n, y.take j⟩ (g5a.same (same_upd nt)) (g5a.spr.ne nt) upd_same ⟨hwp, hnl, plain_sub ypl fun c hc => List.mem_of_mem_take hc, ?_, ?_⟩ hwl⟩
  · show (y.take j).length ≤ 60
    rw [List.length_take]
    omega
  · show wd.length ≤ 1000000
    omega
def spLight : Sp := fun vs H Q _ => ∃ (p : Addr), vs = [.ref p] ∧ Spr H p ∧ ∀ H' a ks, Go p H H' → H a = none → HandL p H' a ks → (∀ k ∈ ks, k.ok) → hwt ks ≤ 30 → Q (.ref a) H'

/-! ## which error it was -/
def whichOf (T : Txt K mg w) (D : Addr) (n : Str) : Prop := (D = T.x_NoHand.C ∧ n = "NoHand") ∨ (D = T.x_NoSheet.C ∧ n = "NoSheet") ∨ (D = T.x_NoTimes.C ∧ n = "NoTimes")
def spWhich (T : Txt K mg w) : Sp := fun vs H Q _ => ∃ (a D : Addr) (n : Str), vs = [.ref a] ∧ H a = some (ExB (.ref D) none a) ∧ whichOf T D n ∧ ∀ H', Same H H' → Q (.str n) H'
theorem ok__law_which (T : Txt K mg w) : FnOk P w K mg base CX0 1 T.f__law_which.f T.f__law_which.fd ["caught"] (spWhich T) := by
  refine T.f__law_which.F.ok sc__law_which (fun vs H Q E h => ?_) (fun cdv A outer s H vs Q E hr h => ?_)
  · obtain ⟨a, D, n, rfl, _⟩ := h
    rfl
  obtain ⟨a, D, n, rfl, ha, hD, q⟩ := h
  refine ⟨_, (pss_cons (ps_if (PW.pt (pw_or (pt_not (pt_val (pe_callB call_isB (by rfl) T.b_isinstance (by decide +kernel) (pa_cons (pv 0) (pa_cons (pe_cls T.x_KeysError.g) pa_nil))))) (pw_or1 (pt_not (pt_val (pe_callB call_isB (by rfl) T.b_isinstance (by decide +kernel) (pa_cons (pv 0) (pa_cons (pe_bltn (v := .ty "ValueError") (by rfl) T.b_ValueError (by decide +kernel) rfl) pa_nil)))))))) (pss_one (ps_ret pe_str)) pss_nil)
      (pss_cons (ps_set (i := 1) sc__law_which.nd rfl (.inl rfl) (pe_lst (pa_cons (pe_callB call_isB (by rfl) T.b_isinstance (by decide +kernel) (pa_cons (pv 0) (pa_cons (pe_cls T.x_NoText.g) pa_nil))) (pa_cons (pe_callB call_isB (by rfl) T.b_isinstance (by decide +kernel) (pa_cons (pv 0) (pa_cons (pe_cls T.x_NoPlace.g) pa_nil))) (pa_cons (pe_callB call_isB (by rfl) T.b_isinstance (by decide +kernel) (pa_cons (pv 0) (pa_cons (pe_cls T.x_NoNumber.g) pa_nil))) pa_nil)))))
      (pss_cons (ps_set (i := 1) sc__law_which.nd rfl (.inl rfl) (pe_op op_cat (pv 1) (pe_lst (pa_cons (pe_callB call_isB (by rfl) T.b_isinstance (by decide +kernel) (pa_cons (pv 0) (pa_cons (pe_cls T.x_NoLetter.g) pa_nil))) (pa_cons (pe_callB call_isB (by rfl) T.b_isinstance (by decide +kernel) (pa_cons (pv 0) (pa_cons (pe_cls T.x_NoHand.g) pa_nil))) (pa_cons (pe_callB call_isB (by rfl) T.b_isinstance (by decide +kernel) (pa_cons (pv 0) (pa_cons (pe_cls T.x_NoSheet.g) pa_nil))) pa_nil))))))
      (pss_cons (ps_set (i := 1) sc__law_which.nd rfl (.inl rfl) (pe_op op_cat (pv 1) (pe_lst (pa_cons (pe_callB call_isB (by rfl) T.b_isinstance (by decide +kernel) (pa_cons (pv 0) (pa_cons (pe_cls T.x_NoTimes.g) pa_nil))) (pa_cons (pe_callB call_isB (by rfl) T.b_isinstance (by decide +kernel) (pa_cons (pv 0) (pa_cons (pe_cls T.x_NoStand.g) pa_nil))) (pa_cons (pe_callB call_isB (by rfl) T.b_isinstance (by decide +kernel) (pa_cons (pv 0) (pa_cons (pe_cls T.x_NoPlay.g) pa_nil))) pa_nil))))))
      (pss_cons (ps_expr (pe_bm PySem.F.plainAttrs_list PySem.F.slot_list_append PySem.F.type_list_append mt_append (pv 1) (pa_cons (pe_callB call_isB (by rfl) T.b_isinstance (by decide +kernel) (pa_cons (pv 0) (pa_cons (pe_cls T.x_NoRings.g) pa_nil))) pa_nil)))
      (pss_cons (ps_set (i := 2) sc__law_which.nd rfl (.inl rfl) (pe_callB call_isBT (by rfl) T.b_isinstance (by decide +kernel) (pa_cons (pv 0) (pa_cons (pe_tup (pa_cons (pe_cls T.x_Full.g) (pa_cons (pe_cls T.x_NoLengths.g) (pa_cons (pe_cls T.x_NoName.g) (pa_cons (pe_cls T.x_NoRow.g) (pa_cons (pe_cls T.x_NoSeen.g) (pa_cons (pe_cls T.x_Nothing.g) (pa_cons (pe_cls T.x_NoWriting.g) (pa_cons (pe_cls T.x_TooMany.g) pa_nil))))))))) pa_nil))))
      (pss_cons (ps_set (i := 3) sc__law_which.nd rfl (.inl rfl) (pe_lst (pa_cons pe_str (pa_cons pe_str (pa_cons pe_str (pa_cons pe_str (pa_cons pe_str (pa_cons pe_str (pa_cons pe_str (pa_cons pe_str (pa_cons pe_str pa_nil)))))))))))
      (pss_cons (ps_expr (pe_bm PySem.F.plainAttrs_list PySem.F.slot_list_append PySem.F.type_list_append mt_append (pv 3) (pa_cons pe_str pa_nil)))
      (pss_one (ps_ret (pe_ifExp (PW.pt (pw_and (pt_cmpR op_eq (pe_bm PySem.F.plainAttrs_list PySem.F.slot_list_count PySem.F.type_list_count mt_countF (pv 1) (pa_cons pe_bl pa_nil)) pe_int (nomark _)) (pw_and1 (pt_not (pt_truth (pv 2) (by intro _; rfl)))))) (pe_ix ix_seq (pv 3) (pe_bm PySem.F.plainAttrs_list PySem.F.slot_list_index PySem.F.type_list_index mt_index (pv 1) (pa_cons pe_bl pa_nil)) (fun _ _ => rfl)) pe_str))))))))))), ?_⟩
  walk_at "rd"
  unfold whichOf at hD
  rcases hD with ⟨rfl, rfl⟩ | ⟨rfl, rfl⟩ | ⟨rfl, rfl⟩
  · refine ⟨_, rfl, a, _, _, _, _, rfl, ha, T.r_NoHand.E, (fun _ r => r), (kit_ref T.x_KeysError T.x_NoHand.sl T.s_NoHand_KeysError), _, rfl, iteF ?_⟩
    refine ⟨_, rfl, a, _, _, _, _, rfl, ha, T.r_NoHand.E, (fun _ r => r), (kit_val (by decide +kernel) T.r_NoHand.sv), _, rfl, iteF ?_⟩
    refine ⟨_, rfl, a, _, _, _, _, rfl, ha, T.r_NoHand.E, (fun _ r => r), (kit_ref T.x_NoText T.x_NoHand.sl T.s_NoHand_NoText), _, rfl, a, _, _, _, _, rfl, ha, T.r_NoHand.E, (fun _ r => r), (kit_ref T.x_NoPlace T.x_NoHand.sl T.s_NoHand_NoPlace), _, rfl, a, _, _, _, _, rfl, ha, T.r_NoHand.E, (fun _ r => r), (kit_ref T.x_NoNumber T.x_NoHand.sl T.s_NoHand_NoNumber), by show 3 ≤ sizeLine; decide, fun l1 n1 => ?_⟩
    have ha := same_upd (o := .lst [V.bl false, V.bl false, V.bl false]) n1 _ _ ha
    have s1 := same_upd (o := .lst [V.bl false, V.bl false, V.bl false]) n1
    have k1 := upd_same (H := H) (a := l1) (o := .lst [V.bl false, V.bl false, V.bl false])
    generalize upd H l1 (.lst [V.bl false, V.bl false, V.bl false]) = H1 at *
    refine ⟨_, rfl, _, rfl, a, _, _, _, _, rfl, ha, T.r_NoHand.E, (fun _ r => r), (kit_ref T.x_NoLetter T.x_NoHand.sl T.s_NoHand_NoLetter), _, rfl, a, _, _, _, _, rfl, ha, T.r_NoHand.E, (fun _ r => r), kit_self, _, rfl, a, _, _, _, _, rfl, ha, T.r_NoHand.E, (fun _ r => r), (kit_ref T.x_NoSheet T.x_NoHand.sl T.s_NoHand_NoSheet), by show 3 ≤ sizeLine; decide, fun la n2 => ⟨l1, la, _, _, rfl, rfl, same_upd n2 _ _ k1, upd_same, by show 6 ≤ sizeLine; decide, fun lb2 n3 => ?_⟩⟩
    have s2 := (same_upd (o := .lst [V.bl false, V.bl true, V.bl false]) n2).trans (same_upd (o := .lst ([V.bl false, V.bl false, V.bl false] ++ [V.bl false, V.bl true, V.bl false])) n3)
    have ha := s2 _ _ ha
    have k2 := upd_same (H := upd H1 la (.lst [V.bl false, V.bl true, V.bl false])) (a := lb2) (o := .lst ([V.bl false, V.bl false, V.bl false] ++ [V.bl false, V.bl true, V.bl false]))
    have n0 : H1 lb2 = none := (same_upd (o := .lst [V.bl false, V.bl true, V.bl false]) n2).free n3
    have m2 : H lb2 = none := s1.free n0
    have s12 := s1.trans s2
    generalize upd (upd H1 la (.lst [V.bl false, V.bl true, V.bl false])) lb2 (.lst ([V.bl false, V.bl false, V.bl false] ++ [V.bl false, V.bl true, V.bl false])) = H2 at *
    clear s2 n2 n3 n0
    refine ⟨_, rfl, _, rfl, a, _, _, _, _, rfl, ha, T.r_NoHand.E, (fun _ r => r), (kit_ref T.x_NoTimes T.x_NoHand.sl T.s_NoHand_NoTimes), _, rfl, a, _, _, _, _, rfl, ha, T.r_NoHand.E, (fun _ r => r), (kit_ref T.x_NoStand T.x_NoHand.sl T.s_NoHand_NoStand), _, rfl, a, _, _, _, _, rfl, ha, T.r_NoHand.E, (fun _ r => r), (kit_ref T.x_NoPlay T.x_NoHand.sl T.s_NoHand_NoPlay), by show 3 ≤ sizeLine; decide, fun la n2 => ⟨lb2, la, _, _, rfl, rfl, same_upd n2 _ _ k2, upd_same, by show 9 ≤ sizeLine; decide, fun lb3 n3 => ?_⟩⟩
    have s2 := (same_upd (o := .lst [V.bl false, V.bl false, V.bl false]) n2).trans (same_upd (o := .lst (([V.bl false, V.bl false, V.bl false] ++ [V.bl false, V.bl true, V.bl false]) ++ [V.bl false, V.bl false, V.bl false])) n3)
    have ha := s2 _ _ ha
    have k3 := upd_same (H := upd H2 la (.lst [V.bl false, V.bl false, V.bl false])) (a := lb3) (o := .lst (([V.bl false, V.bl false, V.bl false] ++ [V.bl false, V.bl true, V.bl false]) ++ [V.bl false, V.bl false, V.bl false]))
    have n0 : H2 lb3 = none := (same_upd (o := .lst [V.bl false, V.bl false, V.bl false]) n2).free n3
    have m3 : H lb3 = none := s12.free n0
    have s13 := s12.trans s2
    generalize upd (upd H2 la (.lst [V.bl false, V.bl false, V.bl false])) lb3 (.lst (([V.bl false, V.bl false, V.bl false] ++ [V.bl false, V.bl true, V.bl false]) ++ [V.bl false, V.bl false, V.bl false])) = H3 at *
    clear s2 n2 n3 n0
    refine ⟨_, rfl, .inl ⟨rfl, _, SqL.of k3⟩, _, rfl, a, _, _, _, _, rfl, ha, T.r_NoHand.E, (fun _ r => r), (kit_ref T.x_NoRings T.x_NoHand.sl T.s_NoHand_NoRings), lb3, _, _, rfl, rfl, k3, by show 9 < sizeLine; decide, ?_⟩
    have k4 := upd_same (H := H3) (a := lb3) (o := .lst ((([V.bl false, V.bl false, V.bl false] ++ [V.bl false, V.bl true, V.bl false]) ++ [V.bl false, V.bl false, V.bl false]) ++ [V.bl false]))
    have na3 : a ≠ lb3 := fun z => by rw [z, k3] at ha; cases ha
    have ha : upd H3 lb3 (.lst ((([V.bl false, V.bl false, V.bl false] ++ [V.bl false, V.bl true, V.bl false]) ++ [V.bl false, V.bl false, V.bl false]) ++ [V.bl false])) a = some (ExB (.ref T.x_NoHand.C) none a) := by rw [upd_ne na3]; exact ha
    have s14 : Same H (upd H3 lb3 (.lst ((([V.bl false, V.bl false, V.bl false] ++ [V.bl false, V.bl true, V.bl false]) ++ [V.bl false, V.bl false, V.bl false]) ++ [V.bl false]))) := same_mut s13 m3
    generalize upd H3 lb3 (.lst ((([V.bl false, V.bl false, V.bl false] ++ [V.bl false, V.bl true, V.bl false]) ++ [V.bl false, V.bl false, V.bl false]) ++ [V.bl false])) = H4 at *
    refine ⟨_, rfl, by show 8 ≤ sizeLine; decide, fun tp ntp => ⟨a, _, tp, [T.x_Full.C, T.x_NoLengths.C, T.x_NoName.C, T.x_NoRow.C, T.x_NoSeen.C, T.x_Nothing.C, T.x_NoWriting.C, T.x_TooMany.C], _, rfl, same_upd ntp _ _ ha, upd_same, T.r_NoHand.E, (kit_cons (kit_ref T.x_Full T.x_NoHand.sl T.s_NoHand_Full) (kit_cons (kit_ref T.x_NoLengths T.x_NoHand.sl T.s_NoHand_NoLengths) (kit_cons (kit_ref T.x_NoName T.x_NoHand.sl T.s_NoHand_NoName) (kit_cons (kit_ref T.x_NoRow T.x_NoHand.sl T.s_NoHand_NoRow) (kit_cons (kit_ref T.x_NoSeen T.x_NoHand.sl T.s_NoHand_NoSeen) (kit_cons (kit_ref T.x_Nothing T.x_NoHand.sl T.s_NoHand_Nothing) (kit_cons (kit_ref T.x_NoWriting T.x_NoHand.sl T.s_NoHand_NoWriting) (kit_cons (kit_ref T.x_TooMany T.x_NoHand.sl T.s_NoHand_TooMany) kit_nil)))))))), ?_⟩⟩
    have s15 := s14.trans (same_upd (o := .tup [V.ref T.x_Full.C, V.ref T.x_NoLengths.C, V.ref T.x_NoName.C, V.ref T.x_NoRow.C, V.ref T.x_NoSeen.C, V.ref T.x_Nothing.C, V.ref T.x_NoWriting.C, V.ref T.x_TooMany.C]) ntp)
    have k5 := same_upd (o := .tup [V.ref T.x_Full.C, V.ref T.x_NoLengths.C, V.ref T.x_NoName.C, V.ref T.x_NoRow.C, V.ref T.x_NoSeen.C, V.ref T.x_Nothing.C, V.ref T.x_NoWriting.C, V.ref T.x_TooMany.C]) ntp _ _ k4
    generalize upd H4 tp (.tup [V.ref T.x_Full.C, V.ref T.x_NoLengths.C, V.ref T.x_NoName.C, V.ref T.x_NoRow.C, V.ref T.x_NoSeen.C, V.ref T.x_Nothing.C, V.ref T.x_NoWriting.C, V.ref T.x_TooMany.C]) = H5 at *
    refine ⟨by show 9 ≤ sizeLine; decide, fun wl nwl => ⟨_, rfl, .inl ⟨rfl, _, SqL.of upd_same⟩, wl, _, _, rfl, rfl, upd_same, by show 9 < sizeLine; decide, ?_⟩⟩
    have k6 := same_upd (o := .lst [V.str "NoText", V.str "NoPlace", V.str "NoNumber", V.str "NoLetter", V.str "NoHand", V.str "NoSheet", V.str "NoTimes", V.str "NoStand", V.str "NoPlay"]) nwl _ _ k5
    have kw := upd_same (H := upd H5 wl (.lst [V.str "NoText", V.str "NoPlace", V.str "NoNumber", V.str "NoLetter", V.str "NoHand", V.str "NoSheet", V.str "NoTimes", V.str "NoStand", V.str "NoPlay"])) (a := wl) (o := .lst ([V.str "NoText", V.str "NoPlace", V.str "NoNumber", V.str "NoLetter", V.str "NoHand", V.str "NoSheet", V.str "NoTimes", V.str "NoStand", V.str "NoPlay"] ++ [V.str "NoRings"]))
    have nlw : lb3 ≠ wl := fun z => by rw [z, nwl] at k5; cases k5
    have k7 : upd (upd H5 wl (.lst [V.str "NoText", V.str "NoPlace", V.str "NoNumber", V.str "NoLetter", V.str "NoHand", V.str "NoSheet", V.str "NoTimes", V.str "NoStand", V.str "NoPlay"])) wl (.lst ([V.str "NoText", V.str "NoPlace", V.str "NoNumber", V.str "NoLetter", V.str "NoHand", V.str "NoSheet", V.str "NoTimes", V.str "NoStand", V.str "NoPlay"] ++ [V.str "NoRings"])) lb3 = _ := (upd_ne nlw).trans k6
    have s16 : Same H (upd (upd H5 wl (.lst [V.str "NoText", V.str "NoPlace", V.str "NoNumber", V.str "NoLetter", V.str "NoHand", V.str "NoSheet", V.str "NoTimes", V.str "NoStand", V.str "NoPlay"])) wl (.lst ([V.str "NoText", V.str "NoPlace", V.str "NoNumber", V.str "NoLetter", V.str "NoHand", V.str "NoSheet", V.str "NoTimes", V.str "NoStand", V.str "NoPlay"] ++ [V.str "NoRings"]))) := same_mut (s15.trans (same_upd nwl)) (s15.free nwl)
    generalize upd (upd H5 wl (.lst [V.str "NoText", V.str "NoPlace", V.str "NoNumber", V.str "NoLetter", V.str "NoHand", V.str "NoSheet", V.str "NoTimes", V.str "NoStand", V.str "NoPlay"])) wl (.lst ([V.str "NoText", V.str "NoPlace", V.str "NoNumber", V.str "NoLetter", V.str "NoHand", V.str "NoSheet", V.str "NoTimes", V.str "NoStand", V.str "NoPlay"] ++ [V.str "NoRings"])) = H6 at *
    refine ⟨_, rfl, .inl ⟨rfl, _, SqL.of k7⟩, lb3, _, _, rfl, rfl, SqL.of k7, rfl, by decide, ?_⟩
    refine ⟨rfl, _, rfl, iteT ⟨_, rfl, false, rfl, iteT ⟨_, rfl, _, rfl, .inl ⟨rfl, _, SqL.of k7⟩, lb3, _, _, 4, _, rfl, rfl, SqL.of k7, rfl, by decide, rfl, rfl, fun m z' hm hz => ?_, ix_lst kw (at_ofA (j := 4) rfl rfl) (q _ s16)⟩⟩⟩
    have hm : m = 0 ∨ m = 1 ∨ m = 2 ∨ m = 3 := by omega
    rcases hm with rfl | rfl | rfl | rfl <;> (cases hz; rfl)
  · refine ⟨_, rfl, a, _, _, _, _, rfl, ha, T.r_NoSheet.E, (fun _ r => r), (kit_ref T.x_KeysError T.x_NoSheet.sl T.s_NoSheet_KeysError), _, rfl, iteF ?_⟩
    refine ⟨_, rfl, a, _, _, _, _, rfl, ha, T.r_NoSheet.E, (fun _ r => r), (kit_val (by decide +kernel) T.r_NoSheet.sv), _, rfl, iteF ?_⟩
    refine ⟨_, rfl, a, _, _, _, _, rfl, ha, T.r_NoSheet.E, (fun _ r => r), (kit_ref T.x_NoText T.x_NoSheet.sl T.s_NoSheet_NoText), _, rfl, a, _, _, _, _, rfl, ha, T.r_NoSheet.E, (fun _ r => r), (kit_ref T.x_NoPlace T.x_NoSheet.sl T.s_NoSheet_NoPlace), _, rfl, a, _, _, _, _, rfl, ha, T.r_NoSheet.E, (fun _ r => r), (kit_ref T.x_NoNumber T.x_NoSheet.sl T.s_NoSheet_NoNumber), by show 3 ≤ sizeLine; decide, fun l1 n1 => ?_⟩
    have ha := same_upd (o := .lst [V.bl false, V.bl false, V.bl false]) n1 _ _ ha
    have s1 := same_upd (o := .lst [V.bl false, V.bl false, V.bl false]) n1
    have k1 := upd_same (H := H) (a := l1) (o := .lst [V.bl false, V.bl false, V.bl false])
    generalize upd H l1 (.lst [V.bl false, V.bl false, V.bl false]) = H1 at *
    refine ⟨_, rfl, _, rfl, a, _, _, _, _, rfl, ha, T.r_NoSheet.E, (fun _ r => r), (kit_ref T.x_NoLetter T.x_NoSheet.sl T.s_NoSheet_NoLetter), _, rfl, a, _, _, _, _, rfl, ha, T.r_NoSheet.E, (fun _ r => r), (kit_ref T.x_NoHand T.x_NoSheet.sl T.s_NoSheet_NoHand), _, rfl, a, _, _, _, _, rfl, ha, T.r_NoSheet.E, (fun _ r => r), kit_self, by show 3 ≤ sizeLine; decide, fun la n2 => ⟨l1, la, _, _, rfl, rfl, same_upd n2 _ _ k1, upd_same, by show 6 ≤ sizeLine; decide, fun lb2 n3 => ?_⟩⟩
    have s2 := (same_upd (o := .lst [V.bl false, V.bl false, V.bl true]) n2).trans (same_upd (o := .lst ([V.bl false, V.bl false, V.bl false] ++ [V.bl false, V.bl false, V.bl true])) n3)
    have ha := s2 _ _ ha
    have k2 := upd_same (H := upd H1 la (.lst [V.bl false, V.bl false, V.bl true])) (a := lb2) (o := .lst ([V.bl false, V.bl false, V.bl false] ++ [V.bl false, V.bl false, V.bl true]))
    have n0 : H1 lb2 = none := (same_upd (o := .lst [V.bl false, V.bl false, V.bl true]) n2).free n3
    have m2 : H lb2 = none := s1.free n0
    have s12 := s1.trans s2
    generalize upd (upd H1 la (.lst [V.bl false, V.bl false, V.bl true])) lb2 (.lst ([V.bl false, V.bl false, V.bl false] ++ [V.bl false, V.bl false, V.bl true])) = H2 at *
    clear s2 n2 n3 n0
    refine ⟨_, rfl, _, rfl, a, _, _, _, _, rfl, ha, T.r_NoSheet.E, (fun _ r => r), (kit_ref T.x_NoTimes T.x_NoSheet.sl T.s_NoSheet_NoTimes), _, rfl, a, _, _, _, _, rfl, ha, T.r_NoSheet.E, (fun _ r => r), (kit_ref T.x_NoStand T.x_NoSheet.sl T.s_NoSheet_NoStand), _, rfl, a, _, _, _, _, rfl, ha, T.r_NoSheet.E, (fun _ r => r), (kit_ref T.x_NoPlay T.x_NoSheet.sl T.s_NoSheet_NoPlay), by show 3 ≤ sizeLine; decide, fun la n2 => ⟨lb2, la, _, _, rfl, rfl, same_upd n2 _ _ k2, upd_same, by show 9 ≤ sizeLine; decide, fun lb3 n3 => ?_⟩⟩
    have s2 := (same_upd (o := .lst [V.bl false, V.bl false, V.bl false]) n2).trans (same_upd (o := .lst (([V.bl false, V.bl false, V.bl false] ++ [V.bl false, V.bl false, V.bl true]) ++ [V.bl false, V.bl false, V.bl false])) n3)
    have ha := s2 _ _ ha
    have k3 := upd_same (H := upd H2 la (.lst [V.bl false, V.bl false, V.bl false])) (a := lb3) (o := .lst (([V.bl false, V.bl false, V.bl false] ++ [V.bl false, V.bl false, V.bl true]) ++ [V.bl false, V.bl false, V.bl false]))
    have n0 : H2 lb3 = none := (same_upd (o := .lst [V.bl false, V.bl false, V.bl false]) n2).free n3
    have m3 : H lb3 = none := s12.free n0
    have s13 := s12.trans s2
    generalize upd (upd H2 la (.lst [V.bl false, V.bl false, V.bl false])) lb3 (.lst (([V.bl false, V.bl false, V.bl false] ++ [V.bl false, V.bl false, V.bl true]) ++ [V.bl false, V.bl false, V.bl false])) = H3 at *
    clear s2 n2 n3 n0
    refine ⟨_, rfl, .inl ⟨rfl, _, SqL.of k3⟩, _, rfl, a, _, _, _, _, rfl, ha, T.r_NoSheet.E, (fun _ r => r), (kit_ref T.x_NoRings T.x_NoSheet.sl T.s_NoSheet_NoRings), lb3, _, _, rfl, rfl, k3, by show 9 < sizeLine; decide, ?_⟩
    have k4 := upd_same (H := H3) (a := lb3) (o := .lst ((([V.bl false, V.bl false, V.bl false] ++ [V.bl false, V.bl false, V.bl true]) ++ [V.bl false, V.bl false, V.bl false]) ++ [V.bl false]))
    have na3 : a ≠ lb3 := fun z => by rw [z, k3] at ha; cases ha
    have ha : upd H3 lb3 (.lst ((([V.bl false, V.bl false, V.bl false] ++ [V.bl false, V.bl false, V.bl true]) ++ [V.bl false, V.bl false, V.bl false]) ++ [V.bl false])) a = some (ExB (.ref T.x_NoSheet.C) none a) := by rw [upd_ne na3]; exact ha
    have s14 : Same H (upd H3 lb3 (.lst ((([V.bl false, V.bl false, V.bl false] ++ [V.bl false, V.bl false, V.bl true]) ++ [V.bl false, V.bl false, V.bl false]) ++ [V.bl false]))) := same_mut s13 m3
    generalize upd H3 lb3 (.lst ((([V.bl false, V.bl false, V.bl false] ++ [V.bl false, V.bl false, V.bl true]) ++ [V.bl false, V.bl false, V.bl false]) ++ [V.bl false])) = H4 at *
    refine ⟨_, rfl, by show 8 ≤ sizeLine; decide, fun tp ntp => ⟨a, _, tp, [T.x_Full.C, T.x_NoLengths.C, T.x_NoName.C, T.x_NoRow.C, T.x_NoSeen.C, T.x_Nothing.C, T.x_NoWriting.C, T.x_TooMany.C], _, rfl, same_upd ntp _ _ ha, upd_same, T.r_NoSheet.E, (kit_cons (kit_ref T.x_Full T.x_NoSheet.sl T.s_NoSheet_Full) (kit_cons (kit_ref T.x_NoLengths T.x_NoSheet.sl T.s_NoSheet_NoLengths) (kit_cons (kit_ref T.x_NoName T.x_NoSheet.sl T.s_NoSheet_NoName) (kit_cons (kit_ref T.x_NoRow T.x_NoSheet.sl T.s_NoSheet_NoRow) (kit_cons (kit_ref T.x_NoSeen T.x_NoSheet.sl T.s_NoSheet_NoSeen) (kit_cons (kit_ref T.x_Nothing T.x_NoSheet.sl T.s_NoSheet_Nothing) (kit_cons (kit_ref T.x_NoWriting T.x_NoSheet.sl T.s_NoSheet_NoWriting) (kit_cons (kit_ref T.x_TooMany T.x_NoSheet.sl T.s_NoSheet_TooMany) kit_nil)))))))), ?_⟩⟩
    have s15 := s14.trans (same_upd (o := .tup [V.ref T.x_Full.C, V.ref T.x_NoLengths.C, V.ref T.x_NoName.C, V.ref T.x_NoRow.C, V.ref T.x_NoSeen.C, V.ref T.x_Nothing.C, V.ref T.x_NoWriting.C, V.ref T.x_TooMany.C]) ntp)
    have k5 := same_upd (o := .tup [V.ref T.x_Full.C, V.ref T.x_NoLengths.C, V.ref T.x_NoName.C, V.ref T.x_NoRow.C, V.ref T.x_NoSeen.C, V.ref T.x_Nothing.C, V.ref T.x_NoWriting.C, V.ref T.x_TooMany.C]) ntp _ _ k4
    generalize upd H4 tp (.tup [V.ref T.x_Full.C, V.ref T.x_NoLengths.C, V.ref T.x_NoName.C, V.ref T.x_NoRow.C, V.ref T.x_NoSeen.C, V.ref T.x_Nothing.C, V.ref T.x_NoWriting.C, V.ref T.x_TooMany.C]) = H5 at *
    refine ⟨by show 9 ≤ sizeLine; decide, fun wl nwl => ⟨_, rfl, .inl ⟨rfl, _, SqL.of upd_same⟩, wl, _, _, rfl, rfl, upd_same, by show 9 < sizeLine; decide, ?_⟩⟩
    have k6 := same_upd (o := .lst [V.str "NoText", V.str "NoPlace", V.str "NoNumber", V.str "NoLetter", V.str "NoHand", V.str "NoSheet", V.str "NoTimes", V.str "NoStand", V.str "NoPlay"]) nwl _ _ k5
    have kw := upd_same (H := upd H5 wl (.lst [V.str "NoText", V.str "NoPlace", V.str "NoNumber", V.str "NoLetter", V.str "NoHand", V.str "NoSheet", V.str "NoTimes", V.str "NoStand", V.str "NoPlay"])) (a := wl) (o := .lst ([V.str "NoText", V.str "NoPlace", V.str "NoNumber", V.str "NoLetter", V.str "NoHand", V.str "NoSheet", V.str "NoTimes", V.str "NoStand", V.str "NoPlay"] ++ [V.str "NoRings"]))
    have nlw : lb3 ≠ wl := fun z => by rw [z, nwl] at k5; cases k5
    have k7 : upd (upd H5 wl (.lst [V.str "NoText", V.str "NoPlace", V.str "NoNumber", V.str "NoLetter", V.str "NoHand", V.str "NoSheet", V.str "NoTimes", V.str "NoStand", V.str "NoPlay"])) wl (.lst ([V.str "NoText", V.str "NoPlace", V.str "NoNumber", V.str "NoLetter", V.str "NoHand", V.str "NoSheet", V.str "NoTimes", V.str "NoStand", V.str "NoPlay"] ++ [V.str "NoRings"])) lb3 = _ := (upd_ne nlw).trans k6
    have s16 : Same H (upd (upd H5 wl (.lst [V.str "NoText", V.str "NoPlace", V.str "NoNumber", V.str "NoLetter", V.str "NoHand", V.str "NoSheet", V.str "NoTimes", V.str "NoStand", V.str "NoPlay"])) wl (.lst ([V.str "NoText", V.str "NoPlace", V.str "NoNumber", V.str "NoLetter", V.str "NoHand", V.str "NoSheet", V.str "NoTimes", V.str "NoStand", V.str "NoPlay"] ++ [V.str "NoRings"]))) := same_mut (s15.trans (same_upd nwl)) (s15.free nwl)
    generalize upd (upd H5 wl (.lst [V.str "NoText", V.str "NoPlace", V.str "NoNumber", V.str "NoLetter", V.str "NoHand", V.str "NoSheet", V.str "NoTimes", V.str "NoStand", V.str "NoPlay"])) wl (.lst ([V.str "NoText", V.str "NoPlace", V.str "NoNumber", V.str "NoLetter", V.str "NoHand", V.str "NoSheet", V.str "NoTimes", V.str "NoStand", V.str "NoPlay"] ++ [V.str "NoRings"])) = H6 at *
    refine ⟨_, rfl, .inl ⟨rfl, _, SqL.of k7⟩, lb3, _, _, rfl, rfl, SqL.of k7, rfl, by decide, ?_⟩
    refine ⟨rfl, _, rfl, iteT ⟨_, rfl, false, rfl, iteT ⟨_, rfl, _, rfl, .inl ⟨rfl, _, SqL.of k7⟩, lb3, _, _, 5, _, rfl, rfl, SqL.of k7, rfl, by decide, rfl, rfl, fun m z' hm hz => ?_, ix_lst kw (at_ofA (j := 5) rfl rfl) (q _ s16)⟩⟩⟩
    have hm : m = 0 ∨ m = 1 ∨ m = 2 ∨ m = 3 ∨ m = 4 := by omega
    rcases hm with rfl | rfl | rfl | rfl | rfl <;> (cases hz; rfl)
  · refine ⟨_, rfl, a, _, _, _, _, rfl, ha, T.r_NoTimes.E, (fun _ r => r), (kit_ref T.x_KeysError T.x_NoTimes.sl T.s_NoTimes_KeysError), _, rfl, iteF ?_⟩
    refine ⟨_, rfl, a, _, _, _, _, rfl, ha, T.r_NoTimes.E, (fun _ r => r), (kit_val (by decide +kernel) T.r_NoTimes.sv), _, rfl, iteF ?_⟩
    refine ⟨_, rfl, a, _, _, _, _, rfl, ha, T.r_NoTimes.E, (fun _ r => r), (kit_ref T.x_NoText T.x_NoTimes.sl T.s_NoTimes_NoText), _, rfl, a, _, _, _, _, rfl, ha, T.r_NoTimes.E, (fun _ r => r), (kit_ref T.x_NoPlace T.x_NoTimes.sl T.s_NoTimes_NoPlace), _, rfl, a, _, _, _, _, rfl, ha, T.r_NoTimes.E, (fun _ r => r), (kit_ref T.x_NoNumber T.x_NoTimes.sl T.s_NoTimes_NoNumber), by show 3 ≤ sizeLine; decide, fun l1 n1 => ?_⟩
    have ha := same_upd (o := .lst [V.bl false, V.bl false, V.bl false]) n1 _ _ ha
    have s1 := same_upd (o := .lst [V.bl false, V.bl false, V.bl false]) n1
    have k1 := upd_same (H := H) (a := l1) (o := .lst [V.bl false, V.bl false, V.bl false])
    generalize upd H l1 (.lst [V.bl false, V.bl false, V.bl false]) = H1 at *
    refine ⟨_, rfl, _, rfl, a, _, _, _, _, rfl, ha, T.r_NoTimes.E, (fun _ r => r), (kit_ref T.x_NoLetter T.x_NoTimes.sl T.s_NoTimes_NoLetter), _, rfl, a, _, _, _, _, rfl, ha, T.r_NoTimes.E, (fun _ r => r), (kit_ref T.x_NoHand T.x_NoTimes.sl T.s_NoTimes_NoHand), _, rfl, a, _, _, _, _, rfl, ha, T.r_NoTimes.E, (fun _ r => r), (kit_ref T.x_NoSheet T.x_NoTimes.sl T.s_NoTimes_NoSheet), by show 3 ≤ sizeLine; decide, fun la n2 => ⟨l1, la, _, _, rfl, rfl, same_upd n2 _ _ k1, upd_same, by show 6 ≤ sizeLine; decide, fun lb2 n3 => ?_⟩⟩
    have s2 := (same_upd (o := .lst [V.bl false, V.bl false, V.bl false]) n2).trans (same_upd (o := .lst ([V.bl false, V.bl false, V.bl false] ++ [V.bl false, V.bl false, V.bl false])) n3)
    have ha := s2 _ _ ha
    have k2 := upd_same (H := upd H1 la (.lst [V.bl false, V.bl false, V.bl false])) (a := lb2) (o := .lst ([V.bl false, V.bl false, V.bl false] ++ [V.bl false, V.bl false, V.bl false]))
    have n0 : H1 lb2 = none := (same_upd (o := .lst [V.bl false, V.bl false, V.bl false]) n2).free n3
    have m2 : H lb2 = none := s1.free n0
    have s12 := s1.trans s2
    generalize upd (upd H1 la (.lst [V.bl false, V.bl false, V.bl false])) lb2 (.lst ([V.bl false, V.bl false, V.bl false] ++ [V.bl false, V.bl false, V.bl false])) = H2 at *
    clear s2 n2 n3 n0
    refine ⟨_, rfl, _, rfl, a, _, _, _, _, rfl, ha, T.r_NoTimes.E, (fun _ r => r), kit_self, _, rfl, a, _, _, _, _, rfl, ha, T.r_NoTimes.E, (fun _ r => r), (kit_ref T.x_NoStand T.x_NoTimes.sl T.s_NoTimes_NoStand), _, rfl, a, _, _, _, _, rfl, ha, T.r_NoTimes.E, (fun _ r => r), (kit_ref T.x_NoPlay T.x_NoTimes.sl T.s_NoTimes_NoPlay), by show 3 ≤ sizeLine; decide, fun la n2 => ⟨lb2, la, _, _, rfl, rfl, same_upd n2 _ _ k2, upd_same, by show 9 ≤ sizeLine; decide, fun lb3 n3 => ?_⟩⟩
    have s2 := (same_upd (o := .lst [V.bl true, V.bl false, V.bl false]) n2).trans (same_upd (o := .lst (([V.bl false, V.bl false, V.bl false] ++ [V.bl false, V.bl false, V.bl false]) ++ [V.bl true, V.bl false, V.bl false])) n3)
    have ha := s2 _ _ ha
    have k3 := upd_same (H := upd H2 la (.lst [V.bl true, V.bl false, V.bl false])) (a := lb3) (o := .lst (([V.bl false, V.bl false, V.bl false] ++ [V.bl false, V.bl false, V.bl false]) ++ [V.bl true, V.bl false, V.bl false]))
    have n0 : H2 lb3 = none := (same_upd (o := .lst [V.bl true, V.bl false, V.bl false]) n2).free n3
    have m3 : H lb3 = none := s12.free n0
    have s13 := s12.trans s2
    generalize upd (upd H2 la (.lst [V.bl true, V.bl false, V.bl false])) lb3 (.lst (([V.bl false, V.bl false, V.bl false] ++ [V.bl false, V.bl false, V.bl false]) ++ [V.bl true, V.bl false, V.bl false])) = H3 at *
    clear s2 n2 n3 n0
    refine ⟨_, rfl, .inl ⟨rfl, _, SqL.of k3⟩, _, rfl, a, _, _, _, _, rfl, ha, T.r_NoTimes.E, (fun _ r => r), (kit_ref T.x_NoRings T.x_NoTimes.sl T.s_NoTimes_NoRings), lb3, _, _, rfl, rfl, k3, by show 9 < sizeLine; decide, ?_⟩
    have k4 := upd_same (H := H3) (a := lb3) (o := .lst ((([V.bl false, V.bl false, V.bl false] ++ [V.bl false, V.bl false, V.bl false]) ++ [V.bl true, V.bl false, V.bl false]) ++ [V.bl false]))
    have na3 : a ≠ lb3 := fun z => by rw [z, k3] at ha; cases ha
    have ha : upd H3 lb3 (.lst ((([V.bl false, V.bl false, V.bl false] ++ [V.bl false, V.bl false, V.bl false]) ++ [V.bl true, V.bl false, V.bl false]) ++ [V.bl false])) a = some (ExB (.ref T.x_NoTimes.C) none a) := by rw [upd_ne na3]; exact ha
    have s14 : Same H (upd H3 lb3 (.lst ((([V.bl false, V.bl false, V.bl false] ++ [V.bl false, V.bl false, V.bl false]) ++ [V.bl true, V.bl false, V.bl false]) ++ [V.bl false]))) := same_mut s13 m3
    generalize upd H3 lb3 (.lst ((([V.bl false, V.bl false, V.bl false] ++ [V.bl false, V.bl false, V.bl false]) ++ [V.bl true, V.bl false, V.bl false]) ++ [V.bl false])) = H4 at *
    refine ⟨_, rfl, by show 8 ≤ sizeLine; decide, fun tp ntp => ⟨a, _, tp, [T.x_Full.C, T.x_NoLengths.C, T.x_NoName.C, T.x_NoRow.C, T.x_NoSeen.C, T.x_Nothing.C, T.x_NoWriting.C, T.x_TooMany.C], _, rfl, same_upd ntp _ _ ha, upd_same, T.r_NoTimes.E, (kit_cons (kit_ref T.x_Full T.x_NoTimes.sl T.s_NoTimes_Full) (kit_cons (kit_ref T.x_NoLengths T.x_NoTimes.sl T.s_NoTimes_NoLengths) (kit_cons (kit_ref T.x_NoName T.x_NoTimes.sl T.s_NoTimes_NoName) (kit_cons (kit_ref T.x_NoRow T.x_NoTimes.sl T.s_NoTimes_NoRow) (kit_cons (kit_ref T.x_NoSeen T.x_NoTimes.sl T.s_NoTimes_NoSeen) (kit_cons (kit_ref T.x_Nothing T.x_NoTimes.sl T.s_NoTimes_Nothing) (kit_cons (kit_ref T.x_NoWriting T.x_NoTimes.sl T.s_NoTimes_NoWriting) (kit_cons (kit_ref T.x_TooMany T.x_NoTimes.sl T.s_NoTimes_TooMany) kit_nil)))))))), ?_⟩⟩
    have s15 := s14.trans (same_upd (o := .tup [V.ref T.x_Full.C, V.ref T.x_NoLengths.C, V.ref T.x_NoName.C, V.ref T.x_NoRow.C, V.ref T.x_NoSeen.C, V.ref T.x_Nothing.C, V.ref T.x_NoWriting.C, V.ref T.x_TooMany.C]) ntp)
    have k5 := same_upd (o := .tup [V.ref T.x_Full.C, V.ref T.x_NoLengths.C, V.ref T.x_NoName.C, V.ref T.x_NoRow.C, V.ref T.x_NoSeen.C, V.ref T.x_Nothing.C, V.ref T.x_NoWriting.C, V.ref T.x_TooMany.C]) ntp _ _ k4
    generalize upd H4 tp (.tup [V.ref T.x_Full.C, V.ref T.x_NoLengths.C, V.ref T.x_NoName.C, V.ref T.x_NoRow.C, V.ref T.x_NoSeen.C, V.ref T.x_Nothing.C, V.ref T.x_NoWriting.C, V.ref T.x_TooMany.C]) = H5 at *
    refine ⟨by show 9 ≤ sizeLine; decide, fun wl nwl => ⟨_, rfl, .inl ⟨rfl, _, SqL.of upd_same⟩, wl, _, _, rfl, rfl, upd_same, by show 9 < sizeLine; decide, ?_⟩⟩
    have k6 := same_upd (o := .lst [V.str "NoText", V.str "NoPlace", V.str "NoNumber", V.str "NoLetter", V.str "NoHand", V.str "NoSheet", V.str "NoTimes", V.str "NoStand", V.str "NoPlay"]) nwl _ _ k5
    have kw := upd_same (H := upd H5 wl (.lst [V.str "NoText", V.str "NoPlace", V.str "NoNumber", V.str "NoLetter", V.str "NoHand", V.str "NoSheet", V.str "NoTimes", V.str "NoStand", V.str "NoPlay"])) (a := wl) (o := .lst ([V.str "NoText", V.str "NoPlace", V.str "NoNumber", V.str "NoLetter", V.str "NoHand", V.str "NoSheet", V.str "NoTimes", V.str "NoStand", V.str "NoPlay"] ++ [V.str "NoRings"]))
    have nlw : lb3 ≠ wl := fun z => by rw [z, nwl] at k5; cases k5
    have k7 : upd (upd H5 wl (.lst [V.str "NoText", V.str "NoPlace", V.str "NoNumber", V.str "NoLetter", V.str "NoHand", V.str "NoSheet", V.str "NoTimes", V.str "NoStand", V.str "NoPlay"])) wl (.lst ([V.str "NoText", V.str "NoPlace", V.str "NoNumber", V.str "NoLetter", V.str "NoHand", V.str "NoSheet", V.str "NoTimes", V.str "NoStand", V.str "NoPlay"] ++ [V.str "NoRings"])) lb3 = _ := (upd_ne nlw).trans k6
    have s16 : Same H (upd (upd H5 wl (.lst [V.str "NoText", V.str "NoPlace", V.str "NoNumber", V.str "NoLetter", V.str "NoHand", V.str "NoSheet", V.str "NoTimes", V.str "NoStand", V.str "NoPlay"])) wl (.lst ([V.str "NoText", V.str "NoPlace", V.str "NoNumber", V.str "NoLetter", V.str "NoHand", V.str "NoSheet", V.str "NoTimes", V.str "NoStand", V.str "NoPlay"] ++ [V.str "NoRings"]))) := same_mut (s15.trans (same_upd nwl)) (s15.free nwl)
    generalize upd (upd H5 wl (.lst [V.str "NoText", V.str "NoPlace", V.str "NoNumber", V.str "NoLetter", V.str "NoHand", V.str "NoSheet", V.str "NoTimes", V.str "NoStand", V.str "NoPlay"])) wl (.lst ([V.str "NoText", V.str "NoPlace", V.str "NoNumber", V.str "NoLetter", V.str "NoHand", V.str "NoSheet", V.str "NoTimes", V.str "NoStand", V.str "NoPlay"] ++ [V.str "NoRings"])) = H6 at *
    refine ⟨_, rfl, .inl ⟨rfl, _, SqL.of k7⟩, lb3, _, _, rfl, rfl, SqL.of k7, rfl, by decide, ?_⟩
    refine ⟨rfl, _, rfl, iteT ⟨_, rfl, false, rfl, iteT ⟨_, rfl, _, rfl, .inl ⟨rfl, _, SqL.of k7⟩, lb3, _, _, 6, _, rfl, rfl, SqL.of k7, rfl, by decide, rfl, rfl, fun m z' hm hz => ?_, ix_lst kw (at_ofA (j := 6) rfl rfl) (q _ s16)⟩⟩⟩
    have hm : m = 0 ∨ m = 1 ∨ m = 2 ∨ m = 3 ∨ m = 4 ∨ m = 5 := by omega
    rcases hm with rfl | rfl | rfl | rfl | rfl | rfl <;> (cases hz; rfl)

/-! ## one question of the law -/
/-- what is asked, and which error is due -/
inductive Due (T : Txt K mg w) : Nat → Dt → Dt → Dt → Addr → Str → Prop
  | w {s h t} : isHandD h = false → Due T 0 s h t T.x_NoHand.C "NoHand"
  | r {s h t} : isHandD h = false → Due T 1 s h t T.x_NoHand.C "NoHand"
  | p1 {s h t} : isSheetD s = false → Due T 2 s h t T.x_NoSheet.C "NoSheet"
  | p2 {s h t} : isSheetD s = true → isHandD h = false → Due T 2 s h t T.x_NoHand.C "NoHand"
  | q1 {s h t} : isSheetD s = false → Due T 3 s h t T.x_NoSheet.C "NoSheet"
  | q2 {s h t} : isSheetD s = true → isHandD h = false → Due T 3 s h t T.x_NoHand.C "NoHand"
  | q3 {s h t} : isSheetD s = true → isHandD h = true → isWithin t 0 300 = false → Due T 3 s h t T.x_NoTimes.C "NoTimes"
def wordsOf (d : Dt) : Nat := match d.items with
  | [.str w, _, _] => w.length
  | _ => 0
/-- what is asked, and nothing is due -/
inductive Fine : Nat → Dt → Dt → Dt → Prop
  | w {s h t} : isHandD h = true → Fine 0 s h t
  | r {s h t} : isHandD h = true → Fine 1 s h t
  | p {s h t} : isSheetD s = true → isHandD h = true → wordsOf s ≤ 10000 → Fine 2 s h t
  | q {s h} {t : Nat} : isSheetD s = true → isHandD h = true → wordsOf s ≤ 10000 → t ≤ 200 → Fine 3 s h (.int (t : Int))
theorem keep_to {c : Value} {N bk ct : L2.St → Hp → Prop} {R : VK} {D : Addr} {σ : L2.St} {H1 : Hp} {Wout : WX} {x0 x1 x2 x3 x4 x5 : Option V} (hx : PySem.W.exmOne K (.ref D) c = some true) (hσ : σ = [x0, x1, x2, x3, x4, x5])
    (hN : ∀ a, H1 a = none → N [x0, x1, x2, x3, some (.ref a), none] (upd H1 a (ExB (.ref D) none a))) : wKeep K c 5 (fun a cls d => tAsg (tVar 5) (gName 4)) Wout { nx := N, rt := R, bk := bk, ct := ct } (.ref D) none σ H1 := by
  subst hσ
  exact ⟨true, hx, fun _ a na => ⟨_, rfl, fun _ => hN a na⟩, fun z => (by cases z)⟩
def spAsked (T : Txt K mg w) : Sp := fun vs H Q _ => ∃ (ask : Nat) (v u o : V) (d e r : Dt), vs = [.int (ask : Int), v, u, o] ∧ At K H v d ∧ At K H u e ∧ At K H o r ∧
  ((∃ D n, Due T ask d e r D n ∧ ∀ H', Same H H' → Q (.str n) H') ∨ (Fine ask d e r ∧ ∀ H', Same H H' → Q (.str "none") H'))
theorem fine_press {v u : V} {d e : Dt} {H : Hp} (hv : At K H v d) (hu : At K H u e) (h1 : isSheetD d = true) (h2 : isHandD e = true) (h3 : wordsOf d ≤ 10000) {t : Nat} (ht : t ≤ 200) :
    ∃ (s : Sh) (ks : List Ky), SheetAt K H v s ∧ HandAt K H u ks ∧ GoodS s ∧ GoodH ks ∧ t ≤ 300 ∧ s.w.length + 3600 * t ≤ 1000000 := by
  obtain ⟨s, hs, gs, es⟩ := sheet_of h1 hv
  obtain ⟨ks, hh, gh, _⟩ := hand_of h2 hu
  refine ⟨s, ks, hs, hh, gs, gh, by omega, ?_⟩
  have : wordsOf d = s.w.length := by unfold wordsOf; rw [es]
  omega
theorem ok__law_asked (T : Txt K mg w) : FnOk P w K mg base CX0 8 T.f__law_asked.f T.f__law_asked.fd ["ask", "sheet", "hand", "often_so"] (spAsked T) := by
  refine T.f__law_asked.F.ok sc__law_asked (fun vs H Q E h => ?_) (fun cdv A outer s H vs Q E hr h => ?_)
  · obtain ⟨ask, v, u, o, d, e, r, rfl, _⟩ := h
    rfl
  obtain ⟨ask, v, u, o, d, e, r, rfl, hv, hu, ho, q⟩ := h
  refine ⟨_, (pss_cons (ps_set (i := 4) sc__law_asked.nd rfl (.inl rfl) pe_non)
      (pss_cons (ps_tryK (i := 5) (Wout := fun _ _ _ _ => False) rfl rfl sc__law_asked.nd rfl rfl ⟨rfl, by decide, .inl T.x_KeysError.g⟩ takes0
      (fun W pn xe tk _ => (pss_one (ps_if (pt_cmpR op_eq (pv 0) pe_int (nomark _)) (pss_one (ps_expr (pe_callS (ok_weight T) (hr.mono (by decide)) (by rfl) T.f_weight.g T.f_weight.F.kp T.f_weight.b (fun σ => passAt tk σ) (pa_cons (pv 2) pa_nil)))) (pss_one (ps_if (pt_cmpR op_eq (pv 0) pe_int (nomark _)) (pss_one (ps_expr (pe_callS (ok_reaches T) (hr.mono (by decide)) (by rfl) T.f_reaches.g T.f_reaches.F.kp T.f_reaches.b (fun σ => passAt tk σ) (pa_cons (pv 2) pa_nil)))) (pss_one (ps_if (pt_cmpR op_eq (pv 0) pe_int (nomark _)) (pss_one (ps_expr (pe_callSD (ok_press T) (hr.mono (by decide)) (by rfl) T.f_press.g T.f_press.F.kp T.f_press.bd T.f_press.vd (fun σ => passAt tk σ) (pa_cons (pv 1) (pa_cons (pv 2) pa_nil))))) (pss_one (ps_expr (pe_callNS (ok_press T) (hr.mono (by decide)) (by rfl) T.f_press.g T.f_press.F.kp T.f_press.kb (fun σ => passAt tk σ) (pa_cons (pv 1) (pa_cons (pv 2) pa_nil)) (pk_cons (pv 3) pk_nil)))))))))))
      (fun a oe cls d pn hz hf => by exact (pss_one (ps_set (i := 4) sc__law_asked.nd rfl (.inl rfl) (pv 5)))))
      (pss_one (ps_ret (pe_ifExp (pt_cmpR op_isN (pv 4) pe_non (nomark _)) pe_str (pe_call (ok__law_which T) (hr.mono (by decide)) (by rfl) T.f__law_which.g T.f__law_which.F.kp T.f__law_which.b .nil pass0 (pa_cons (pv 4) pa_nil))))))), ?_⟩
  walk_at "rd"
  have nr : ∀ a : Addr, V.bl (decide (V.ref a = V.non)) = V.bl false := fun a => by rw [decide_eq_false (fun z => by cases z)]
  rcases q with ⟨D, n, hd, q⟩ | ⟨hf, q⟩
  · have fin : ∀ (hw : whichOf T D n) {H1 : Hp} {a : Addr}, Same H H1 → H1 a = none → spWhich T [.ref a] (upd H1 a (ExB (.ref D) none a)) Q E0 := fun hw H1 a s1 na => ⟨a, D, n, rfl, upd_same, hw, fun H2 s2 => q _ ((s1.trans (same_upd na)).trans s2)⟩
    cases hd
    case w h1 =>
      refine ⟨_, rfl, rfl, _, rfl, iteY (by decide) ⟨_, rfl, u, e, rfl, hu, fun H1 s1 => ⟨fun z => (by rw [h1] at z; cases z), fun _ => ?_⟩⟩⟩
      exact keep_to (exm_of T.x_KeysError T.s_NoHand_KeysError) rfl fun a na => ⟨_, rfl, rfl, false, nr a, iteF ⟨_, rfl, fin (.inl ⟨rfl, rfl⟩) s1 na⟩⟩
    case r h1 =>
      refine ⟨_, rfl, rfl, _, rfl, iteN (by decide) ⟨_, rfl, rfl, _, rfl, iteY (by decide) ⟨_, rfl, u, e, rfl, hu, fun _ H1 s1 => ?_, fun z => (by rw [h1] at z; cases z)⟩⟩⟩
      exact keep_to (exm_of T.x_KeysError T.s_NoHand_KeysError) rfl fun a na => ⟨_, rfl, rfl, false, nr a, iteF ⟨_, rfl, fin (.inl ⟨rfl, rfl⟩) s1 na⟩⟩
    case p1 h1 =>
      refine ⟨_, rfl, rfl, _, rfl, iteN (by decide) ⟨_, rfl, rfl, _, rfl, iteN (by decide) ⟨_, rfl, rfl, _, rfl, iteY (by decide) ⟨_, rfl, _, rfl, v, u, V.int 1, d, e, Dt.int 1, rfl, hv, hu, la_int, fun _ H1 s1 => ?_, fun z => (by rw [h1] at z; cases z), fun z => (by rw [h1] at z; cases z), fun z => (by rw [h1] at z; cases z)⟩⟩⟩⟩
      exact keep_to (exm_of T.x_KeysError T.s_NoSheet_KeysError) rfl fun a na => ⟨_, rfl, rfl, false, nr a, iteF ⟨_, rfl, fin (.inr (.inl ⟨rfl, rfl⟩)) s1 na⟩⟩
    case p2 h1 h2 =>
      refine ⟨_, rfl, rfl, _, rfl, iteN (by decide) ⟨_, rfl, rfl, _, rfl, iteN (by decide) ⟨_, rfl, rfl, _, rfl, iteY (by decide) ⟨_, rfl, _, rfl, v, u, V.int 1, d, e, Dt.int 1, rfl, hv, hu, la_int, fun z => (by rw [h1] at z; cases z), fun _ _ H1 s1 => ?_, fun _ z => (by rw [h2] at z; cases z), fun _ z => (by rw [h2] at z; cases z)⟩⟩⟩⟩
      exact keep_to (exm_of T.x_KeysError T.s_NoHand_KeysError) rfl fun a na => ⟨_, rfl, rfl, false, nr a, iteF ⟨_, rfl, fin (.inl ⟨rfl, rfl⟩) s1 na⟩⟩
    case q1 h1 =>
      refine ⟨_, rfl, rfl, _, rfl, iteN (by decide) ⟨_, rfl, rfl, _, rfl, iteN (by decide) ⟨_, rfl, rfl, _, rfl, iteN (by decide) ⟨_, rfl, _, rfl, _, rfl, rfl, rfl, v, u, o, d, e, r, rfl, hv, hu, ho, fun _ H1 s1 => ?_, fun z => (by rw [h1] at z; cases z), fun z => (by rw [h1] at z; cases z), fun z => (by rw [h1] at z; cases z)⟩⟩⟩⟩
      exact keep_to (exm_of T.x_KeysError T.s_NoSheet_KeysError) rfl fun a na => ⟨_, rfl, rfl, false, nr a, iteF ⟨_, rfl, fin (.inr (.inl ⟨rfl, rfl⟩)) s1 na⟩⟩
    case q2 h1 h2 =>
      refine ⟨_, rfl, rfl, _, rfl, iteN (by decide) ⟨_, rfl, rfl, _, rfl, iteN (by decide) ⟨_, rfl, rfl, _, rfl, iteN (by decide) ⟨_, rfl, _, rfl, _, rfl, rfl, rfl, v, u, o, d, e, r, rfl, hv, hu, ho, fun z => (by rw [h1] at z; cases z), fun _ _ H1 s1 => ?_, fun _ z => (by rw [h2] at z; cases z), fun _ z => (by rw [h2] at z; cases z)⟩⟩⟩⟩
      exact keep_to (exm_of T.x_KeysError T.s_NoHand_KeysError) rfl fun a na => ⟨_, rfl, rfl, false, nr a, iteF ⟨_, rfl, fin (.inl ⟨rfl, rfl⟩) s1 na⟩⟩
    case q3 h1 h2 h3 =>
      refine ⟨_, rfl, rfl, _, rfl, iteN (by decide) ⟨_, rfl, rfl, _, rfl, iteN (by decide) ⟨_, rfl, rfl, _, rfl, iteN (by decide) ⟨_, rfl, _, rfl, _, rfl, rfl, rfl, v, u, o, d, e, r, rfl, hv, hu, ho, fun z => (by rw [h1] at z; cases z), fun _ z => (by rw [h2] at z; cases z), fun _ _ _ H1 s1 => ?_, fun _ _ z => (by rw [h3] at z; cases z)⟩⟩⟩⟩
      exact keep_to (exm_of T.x_KeysError T.s_NoTimes_KeysError) rfl fun a na => ⟨_, rfl, rfl, false, nr a, iteF ⟨_, rfl, fin (.inr (.inr ⟨rfl, rfl⟩)) s1 na⟩⟩
  · cases hf
    case w h1 =>
      exact ⟨_, rfl, rfl, _, rfl, iteY (by decide) ⟨_, rfl, u, e, rfl, hu, fun H1 s1 => ⟨fun _ => ⟨_, rfl, rfl, true, rfl, iteT (q _ s1)⟩, fun z => (by rw [h1] at z; cases z)⟩⟩⟩
    case r h1 =>
      exact ⟨_, rfl, rfl, _, rfl, iteN (by decide) ⟨_, rfl, rfl, _, rfl, iteY (by decide) ⟨_, rfl, u, e, rfl, hu, fun z => (by rw [h1] at z; cases z), fun _ p H1 s1 => ⟨_, rfl, rfl, true, rfl, iteT (q _ s1)⟩⟩⟩⟩
    case p h1 h3 h2 =>
      have hw : isWithin (.int 1) 0 300 = true := by
        unfold isWithin
        simp only [Bool.and_eq_true, decide_eq_true_eq]
        omega
      obtain ⟨s0, ks, f1, f2, f3, f4, f5, f6⟩ := fine_press hv hu h1 h2 h3 (t := 1) (by omega)
      exact ⟨_, rfl, rfl, _, rfl, iteN (by decide) ⟨_, rfl, rfl, _, rfl, iteN (by decide) ⟨_, rfl, rfl, _, rfl, iteY (by decide) ⟨_, rfl, _, rfl, v, u, V.int 1, d, e, .int 1, rfl, hv, hu, la_int, fun z => (by rw [h1] at z; cases z), fun _ z => (by rw [h2] at z; cases z), fun _ _ z => (by rw [hw] at z; cases z), fun _ _ _ => ⟨s0, ks, 1, f1, f2, rfl, f3, f4, f5, f6, fun p H1 s1 _ => ⟨_, rfl, rfl, true, rfl, iteT (q _ s1)⟩⟩⟩⟩⟩⟩
    case q t h4 h1 h3 h2 =>
      unfold At at ho
      subst ho
      have hw : isWithin (.int (t : Int)) 0 300 = true := by
        unfold isWithin
        simp only [Bool.and_eq_true, decide_eq_true_eq]
        omega
      obtain ⟨s0, ks, f1, f2, f3, f4, f5, f6⟩ := fine_press hv hu h1 h2 h3 (t := t) (by omega)
      exact ⟨_, rfl, rfl, _, rfl, iteN (by decide) ⟨_, rfl, rfl, _, rfl, iteN (by decide) ⟨_, rfl, rfl, _, rfl, iteN (by decide) ⟨_, rfl, _, rfl, _, rfl, rfl, rfl, v, u, V.int (t : Int), d, e, .int (t : Int), rfl, hv, hu, la_int, fun z => (by rw [h1] at z; cases z), fun _ z => (by rw [h2] at z; cases z), fun _ _ z => (by rw [hw] at z; cases z), fun _ _ _ => ⟨s0, ks, t, f1, f2, rfl, f3, f4, f5, f6, fun p H1 s1 _ => ⟨_, rfl, rfl, true, rfl, iteT (q _ s1)⟩⟩⟩⟩⟩⟩

/-! ## lists and tuples, mixed within -/
theorem iteE {c : Bool} {A B : Prop} (h1 : c = true → A) (h2 : c = false → B) : if c = true then A else B := by
  cases c with
  | true => exact iteT (h1 rfl)
  | false => exact iteF (h2 rfl)
theorem norm_row {d : Dt} (h : isRow d = true) : norm d = .lst (d.items.map norm) := by
  cases d with
  | lst ds => simp only [norm, Dt.items, normAll_map]
  | tup ds => simp only [norm, Dt.items, normAll_map]
  | _ => cases h
def spLists (n : Nat) (K : PySem.W.Frag) : Sp := fun vs H Q _ => ∃ v d, vs = [v] ∧ At K H v d ∧ deep d < n ∧ Fits d ∧ bulk d ≤ 300000 ∧
  ∀ H' u fp, Same H H' → AtF H' u (norm d) fp → fp.Nodup → (∀ b ∈ fp, H b = none) → Q u H'
def spHanded (K : PySem.W.Frag) : Sp := fun vs H Q _ => ∃ p v d, vs = [.ref p, v] ∧ Spr H p ∧ At K (hid p H) v d ∧ isRow d = true ∧ deep d ≤ 2 ∧ Fits d ∧ bulk d ≤ 300000 ∧
  ∀ H' u e, Go p H H' → At K (hid p H') u e → norm e = norm d → Q u H'
theorem Go.hid {p : Addr} {H H' : Hp} (g : Go p H H') : Same (hid p H) (hid p H') := fun b o h => by
  obtain ⟨h1, h2⟩ := hid_at h
  rw [hid_ne h1]
  exact g.keep b o h1 h2
theorem Spr.some {p : Addr} {H : Hp} (h : Spr H p) : H p ≠ none := by
  obtain ⟨F, S, C, h, _⟩ := h
  rw [h]
  exact nofun
theorem hid_fresh {p : Addr} {H H' : Hp} (h : Spr H p) {v : V} {d : Dt} {fp : List Addr} (hv : AtF H' v d fp) (hf : ∀ b ∈ fp, H b = none) : AtF (hid p H') v d fp :=
  AtF.same _ _ _ hv fun b o hb e => by
    rw [hid_ne (fun z => h.some (by rw [← z]; exact hf b hb))]
    exact e

theorem norm_leaf {d : Dt} (h : isRow d = false) : norm d = d := by cases d <;> first | rfl | cases h
theorem leaf_norm {d e : Dt} (h : norm e = d) (hd : isRow d = false) : e = d := by
  have : isRow e = false := by rw [← row_norm, h, hd]
  rw [← h, norm_leaf this]
theorem kD_leaf (k : Ky) : ∀ d ∈ kD k, isRow d = false := by
  intro d hd
  cases k <;> simp only [kD, List.mem_cons, List.not_mem_nil, or_false] at hd
  case paste => subst hd; rfl
  all_goals (rcases hd with rfl | rfl <;> rfl)
theorem ats_leaf {K : PySem.W.Frag} {H : Hp} : ∀ {es ds : List Dt} {xs : List V}, Ats K H xs es → es.map norm = ds → (∀ d ∈ ds, isRow d = false) → Ats K H xs ds
  | [], ds, xs, h, e, _ => by rw [← e]; exact h
  | c :: es, ds, xs, h, e, hl => by
    subst e
    rw [List.map_cons] at hl ⊢
    unfold Ats at h ⊢
    obtain ⟨v, us, rfl, h1, h2⟩ := h
    refine ⟨v, us, rfl, ?_, ats_leaf h2 rfl fun d hd => hl d (List.mem_cons_of_mem _ hd)⟩
    rw [← leaf_norm (e := c) rfl (hl _ (List.mem_cons_self ..))]
    exact h1
theorem at_nm {K : PySem.W.Frag} {H : Hp} {v : V} (z : Str) (h : At K H v (.str (nm z))) : v = .str z := by
  unfold At at h
  rw [h.1]
  unfold nm
  rw [tx_of]
theorem ats_vs {K : PySem.W.Frag} {H : Hp} {xs : List V} (k : Ky) (h : Ats K H xs (kD k)) : xs = k.vs := by
  have two : ∀ {z : Str} {d : Dt}, Ats K H xs [.str (nm z), d] → ∃ v, xs = [.str z, v] ∧ At K H v d := fun h => by
    unfold Ats at h
    obtain ⟨v, us, rfl, h1, h2⟩ := h
    unfold Ats at h2
    obtain ⟨u, us, rfl, h3, h4⟩ := h2
    unfold Ats at h4
    subst h4
    exact ⟨u, by rw [at_nm _ h1], h3⟩
  cases k with
  | paste =>
    have h : Ats K H xs [.str (nm "paste")] := h
    unfold Ats at h
    obtain ⟨v, us, rfl, h1, h2⟩ := h
    unfold Ats at h2
    subst h2
    rw [at_nm _ h1]
    rfl
  | write w => obtain ⟨v, rfl, h3⟩ := two (z := "write") h; unfold At at h3; rw [h3.1]; rfl
  | left n => obtain ⟨v, rfl, h3⟩ := two (z := "left") h; unfold At at h3; rw [h3]; rfl
  | right n => obtain ⟨v, rfl, h3⟩ := two (z := "right") h; unfold At at h3; rw [h3]; rfl
  | strike n => obtain ⟨v, rfl, h3⟩ := two (z := "strike") h; unfold At at h3; rw [h3]; rfl
  | rub n => obtain ⟨v, rfl, h3⟩ := two (z := "rub") h; unfold At at h3; rw [h3]; rfl
  | copy n => obtain ⟨v, rfl, h3⟩ := two (z := "copy") h; unfold At at h3; rw [h3]; rfl
  | cut n => obtain ⟨v, rfl, h3⟩ := two (z := "cut") h; unfold At at h3; rw [h3]; rfl
/-- a hand as a thing -/
def dH (ks : List Ky) : Dt := .lst (ks.map fun k => .tup (kD k))
theorem norm_lst (ds : List Dt) : norm (.lst ds) = .lst (ds.map norm) := by simp only [norm, normAll_map]
theorem norm_tup (ds : List Dt) : norm (.tup ds) = .lst (ds.map norm) := by simp only [norm, normAll_map]
theorem keyAt_of {K : PySem.W.Frag} {H : Hp} {v : V} {k : Ky} {e : Dt} (h : At K H v e) (hn : norm e = norm (.tup (kD k))) : KeyAt K H v k := by
  have hr : isRow e = true := by rw [← row_norm, hn, row_norm]; rfl
  obtain ⟨a, xs, rfl, hrow, hx⟩ := at_row h hr
  have hi : e.items.map norm = kD k := by
    rw [← items_norm, hn, items_norm]
    show (kD k).map norm = kD k
    have : ∀ ds : List Dt, (∀ d ∈ ds, isRow d = false) → ds.map norm = ds := fun ds => by
      induction ds with
      | nil => intro _; rfl
      | cons c ds ih => intro h; rw [List.map_cons, norm_leaf (h c (List.mem_cons_self ..)), ih fun d hd => h d (List.mem_cons_of_mem _ hd)]
    exact this _ (kD_leaf k)
  have := ats_vs k (ats_leaf hx hi (kD_leaf k))
  subst this
  exact ⟨a, rfl, hrow⟩
theorem keysAt_of {K : PySem.W.Frag} {H : Hp} : ∀ {es : List Dt} {ks : List Ky} {xs : List V}, Ats K H xs es → es.map norm = (ks.map fun k => norm (.tup (kD k))) → Paired (KeyAt K H) xs ks
  | [], [], xs, h, _ => by unfold Ats at h; subst h; exact .nil
  | [], _ :: _, _, _, e => by cases e
  | _ :: _, [], _, _, e => by cases e
  | e :: es, k :: ks, xs, h, hn => by
    unfold Ats at h
    obtain ⟨v, us, rfl, h1, h2⟩ := h
    rw [List.map_cons, List.map_cons] at hn
    injection hn with n1 n2
    exact .cons (keyAt_of h1 n1) (keysAt_of h2 n2)
theorem handAt_of {K : PySem.W.Frag} {H : Hp} {v : V} {ks : List Ky} {e : Dt} (h : At K H v e) (hn : norm e = norm (dH ks)) : HandAt K H v ks := by
  have hr : isRow e = true := by rw [← row_norm, hn, row_norm]; rfl
  obtain ⟨a, xs, rfl, hrow, hx⟩ := at_row h hr
  refine ⟨a, xs, rfl, hrow, keysAt_of hx ?_⟩
  rw [← items_norm, hn, items_norm]
  show (ks.map _).map norm = _
  rw [List.map_map]
  rfl
theorem at_dH {K : PySem.W.Frag} {p : Addr} {H : Hp} {a : Addr} {ks : List Ky} (h : HandL p H a ks) (hok : ∀ k ∈ ks, k.ok) : At K (hid p H) (.ref a) (dH ks) := by
  obtain ⟨ha, xs, hx, hp⟩ := h
  have : Ats K (hid p H) xs (ks.map fun k => .tup (kD k)) := by
    clear hx
    induction hp with
    | nil => unfold Ats; rfl
    | cons r t ih =>
      obtain ⟨b, rfl, hb, hbv⟩ := r
      unfold Ats
      refine ⟨_, _, rfl, ?_, ih fun k hk => hok k (List.mem_cons_of_mem _ hk)⟩
      unfold At
      exact ⟨b, _, rfl, SqT.of (by rw [hid_ne hb]; exact hbv), ats_key _ (hok _ (List.mem_cons_self ..))⟩
  unfold dH At
  exact ⟨a, xs, rfl, SqL.of (by rw [hid_ne ha]; exact hx), this⟩
theorem kD_fits {k : Ky} (hok : k.ok) (hw : k.wt ≤ 60) : ∀ d ∈ kD k, Fits d ∧ deep d ≤ 0 ∧ bulk d ≤ 60 := by
  have hs : ∀ z ∈ (["write", "paste", "left", "right", "strike", "rub", "copy", "cut"] : List Str), Fits (.str (nm z)) ∧ deep (.str (nm z)) ≤ 0 ∧ bulk (.str (nm z)) ≤ 60 := fun z hz => by
    refine ⟨?_, Nat.le_refl _, ?_⟩
    · unfold Fits
      exact fun c hc => Nat.lt_of_lt_of_le ((by decide +kernel : ∀ z ∈ (["write", "paste", "left", "right", "strike", "rub", "copy", "cut"] : List Str), ∀ c ∈ nm z, c < 1000) z hz c hc) (by decide)
    · unfold bulk
      exact Nat.le_trans (kn_names z hz).2 (by decide)
  have hi : ∀ n : Nat, n ≤ 60 → Fits (.int n) ∧ deep (.int n) ≤ 0 ∧ bulk (.int n) ≤ 60 := fun n hn => ⟨by unfold Fits; exact Nat.lt_of_le_of_lt (show (n : Int).natAbs ≤ 60 by omega) (by decide), Nat.le_refl _, by unfold bulk; exact Nat.zero_le _⟩
  intro d hd
  cases k <;> simp only [kD, List.mem_cons, List.not_mem_nil, or_false] at hd
  case paste => subst hd; exact hs _ (by simp)
  case write w =>
    rcases hd with rfl | rfl
    · exact hs _ (by simp)
    · refine ⟨?_, Nat.le_refl _, by unfold bulk; exact hok.2.1⟩
      unfold Fits
      exact fun c hc => Nat.lt_of_lt_of_le ((by decide +kernel : ∀ c ∈ alpha, c < 1000) c (by simpa using plain_mem hok.2.2 hc)) (by decide)
  all_goals (rcases hd with rfl | rfl; exact hs _ (by simp); exact hi _ hw)
theorem kD_len (k : Ky) : (kD k).length ≤ 2 := by cases k <;> simp [kD]
theorem dH_fits {ks : List Ky} (h : GoodH ks) : Fits (dH ks) ∧ deep (dH ks) ≤ 2 ∧ bulk (dH ks) ≤ 300000 := by
  have hk : ∀ d ∈ (ks.map fun k => Dt.tup (kD k)), Fits d ∧ deep d ≤ 1 ∧ bulk d ≤ 200 := fun d hd => by
    obtain ⟨k, hkm, rfl⟩ := List.mem_map.mp hd
    have h1 := kD_fits (h.ok k hkm) (Nat.le_trans (hwt_mem hkm) h.wt)
    refine ⟨by unfold Fits; exact fitsAll_of fun d hd => (h1 d hd).1, ?_, ?_⟩
    · unfold deep
      have := deepAll_le (n := 0) (ds := kD k) fun d hd => (h1 d hd).2.1
      omega
    · unfold bulk
      have := bulkAll_le (n := 60) (ds := kD k) fun d hd => (h1 d hd).2.2
      have h2 := kD_len k
      have : (kD k).length * (60 + 1) ≤ 2 * 61 := Nat.mul_le_mul_right _ h2
      omega
  refine ⟨by unfold dH Fits; exact fitsAll_of fun d hd => (hk d hd).1, ?_, ?_⟩
  · unfold dH deep
    have := deepAll_le (n := 1) (ds := ks.map fun k => Dt.tup (kD k)) fun d hd => (hk d hd).2.1
    omega
  · unfold dH bulk
    have h1 := bulkAll_le (n := 200) (ds := ks.map fun k => Dt.tup (kD k)) fun d hd => (hk d hd).2.2
    have h2 := h.few
    rw [List.length_map] at h1
    have : ks.length * (200 + 1) ≤ 60 * 201 := Nat.mul_le_mul_right _ h2
    omega
theorem dH_neat {ks : List Ky} (h : GoodH ks) : Neat (dH ks) := ⟨(dH_fits h).1, Nat.le_trans (dH_fits h).2.1 (by decide), (dH_fits h).2.2⟩

/-! ## small things -/
mutual
def fitB : Dt → Bool
  | .non => true
  | .bl _ => true
  | .int i => decide (i.natAbs < 10 ^ 47)
  | .str w => w.all fun c => decide (c < 4294967296)
  | .lst ds => fitBs ds
  | .tup ds => fitBs ds
  | .dic => true
def fitBs : List Dt → Bool
  | [] => true
  | d :: ds => fitB d && fitBs ds
end
mutual
theorem fitB_of : ∀ d : Dt, fitB d = true → FitD d
  | .non, _ => by unfold FitD; trivial
  | .bl _, _ => by unfold FitD; trivial
  | .int i, h => by unfold fitB at h; unfold FitD; exact of_decide_eq_true h
  | .str w, h => by unfold fitB at h; unfold FitD; exact fun c hc => of_decide_eq_true (List.all_eq_true.mp h c hc)
  | .lst ds, h => by unfold fitB at h; unfold FitD; exact fitBs_of ds h
  | .tup ds, h => by unfold fitB at h; unfold FitD; exact fitBs_of ds h
  | .dic, _ => by unfold FitD; trivial
theorem fitBs_of : ∀ ds : List Dt, fitBs ds = true → FitDs ds
  | [], _ => by unfold FitDs; trivial
  | d :: ds, h => by
    unfold fitBs at h
    rw [Bool.and_eq_true] at h
    unfold FitDs
    exact ⟨fitB_of d h.1, fitBs_of ds h.2⟩
end
theorem all_at {α : Type} {f : α → Bool} {l : List α} {i : Nat} {x : α} (h : l.all f = true) (e : l[i]? = some x) : f x = true := List.all_eq_true.mp h x (List.mem_of_getElem? e)
theorem las_lt {K : PySem.W.Frag} {H : Hp} {vs : List V} {ds : List Dt} {j n : Nat} (h : Ats K H vs ds) (hj : j < n) (hn : ds.length = n) : ∃ d v, ds[j]? = some d ∧ vs[j]? = some v ∧ At K H v d := by
  have hd : ds[j]? = some (ds[j]'(by omega)) := List.getElem?_eq_getElem _
  obtain ⟨v, hv, a⟩ := h.get hd
  exact ⟨_, v, hd, hv, a⟩
/-- short, and shown shortly -/
def Tiny (d : Dt) : Bool := fitB d && decide (deep d ≤ 5) && decide (bulk d ≤ 1000)
theorem Tiny.fit {d : Dt} (h : Tiny d = true) : FitD d ∧ deep d ≤ 5 ∧ bulk d ≤ 1000 := by
  unfold Tiny at h
  simp only [Bool.and_eq_true, decide_eq_true_eq] at h
  exact ⟨fitB_of d h.1.1, h.1.2, h.2⟩
theorem deepAll_app : ∀ (A B : List Dt), deepAll (A ++ B) = max (deepAll A) (deepAll B)
  | [], B => by rw [List.nil_append]; simp only [deepAll]; omega
  | a :: A, B => by
    rw [List.cons_append]
    simp only [deepAll, deepAll_app A B]
    omega
theorem bulkAll_app : ∀ (A B : List Dt), bulkAll (A ++ B) = bulkAll A + bulkAll B
  | [], B => by rw [List.nil_append]; simp only [bulkAll]; omega
  | a :: A, B => by
    rw [List.cons_append]
    simp only [bulkAll, bulkAll_app A B]
    omega
theorem fitDs_app {A B : List Dt} (h : FitDs A) (k : FitDs B) : FitDs (A ++ B) := fitDs_of fun d hd => (List.mem_append.mp hd).elim (fun z => fitDs_mem h z) fun z => fitDs_mem k z
theorem fitDs_sub {A B : List Dt} (h : FitDs B) (k : ∀ d ∈ A, d ∈ B) : FitDs A := fitDs_of fun d hd => fitDs_mem h (k d hd)
/-- a short list with a small thing put in -/
theorem neat_put {A B ds : List Dt} {d : Dt} (hs : ds = A ++ B) (h : NeatD (.lst ds)) (hd : deep (.lst ds) ≤ 10) (hb : bulk (.lst ds) ≤ 12500) (ht : Tiny d = true) : NeatD (.lst (A ++ [d] ++ B)) ∧ deep (.lst (A ++ [d] ++ B)) ≤ 10 ∧ bulk (.lst (A ++ [d] ++ B)) ≤ 14500 := by
  obtain ⟨t1, t2, t3⟩ := Tiny.fit ht
  have h1 : FitDs ds := by have := h.1; unfold FitD at this; exact this
  simp only [deep, hs, deepAll_app] at hd
  simp only [bulk, hs, bulkAll_app] at hb
  have e1 : deep (.lst (A ++ [d] ++ B)) ≤ 10 := by simp only [deep, deepAll_app, deepAll]; omega
  have e2 : bulk (.lst (A ++ [d] ++ B)) ≤ 14500 := by simp only [bulk, bulkAll_app, bulkAll]; omega
  refine ⟨⟨?_, by omega, by omega⟩, e1, e2⟩
  unfold FitD
  refine fitDs_app (fitDs_app (fitDs_sub h1 fun x hx => by rw [hs]; exact List.mem_append_left _ hx) ?_) (fitDs_sub h1 fun x hx => by rw [hs]; exact List.mem_append_right _ hx)
  unfold FitDs FitDs
  exact ⟨t1, trivial⟩
theorem cut_to {xs : List V} {n : Nat} (hn : n ≤ xs.length) : cutV xs none (some (n : Int)) = xs.take n ∧ cutV xs (some (n : Int)) none = xs.drop n := by
  have e : HT.sIx xs.length xs.length (some (n : Int)) = n ∧ HT.sIx xs.length 0 (some (n : Int)) = n := ⟨(HT.sIx_nat xs.length xs.length n).trans (by omega), (HT.sIx_nat xs.length 0 n).trans (by omega)⟩
  have e2 : HT.sIx xs.length 0 none = 0 := rfl
  have e3 : HT.sIx xs.length xs.length none = xs.length := rfl
  constructor
  · unfold cutV
    rw [e.1, e2, List.drop_zero, Nat.sub_zero]
  · unfold cutV
    rw [e.2, e3, List.take_of_length_le (by rw [List.length_drop]; omega)]

/-! ## things that are no hands -/
def badKey (d : Dt) : Bool := !isKeyD d || decide (60 < wtOf d)
theorem noHand_of {A B : List Dt} {d : Dt} (hd : badKey d = true) : isHandD (.lst (A ++ [d] ++ B)) = false := by
  unfold isHandD
  cases hp : isKeyD d with
  | false =>
    have : ((Dt.lst (A ++ [d] ++ B)).items.all isKeyD) = false := by
      rw [List.all_eq_false]
      exact ⟨d, by show d ∈ A ++ [d] ++ B; simp, by rw [hp]; exact Bool.false_ne_true⟩
    rw [this, Bool.and_false, Bool.false_and]
  | true =>
    unfold badKey at hd
    rw [hp] at hd
    have h2 : 60 < wtOf d := by simpa using hd
    have h3 : ¬ ((Dt.lst (A ++ [d] ++ B)).items.map wtOf).sum ≤ 60 := by
      show ¬ ((A ++ [d] ++ B).map wtOf).sum ≤ 60
      rw [List.map_append, List.map_append, List.sum_append, List.sum_append, List.map_cons, List.map_nil, List.sum_cons, List.sum_nil]
      omega
    rw [decide_eq_false h3, Bool.and_false]
def spNoHand (K : PySem.W.Frag) : Sp := fun vs H Q _ => ∃ (p a : Addr) (xs : List V) (ds : List Dt), vs = [.ref p, .ref a] ∧ Spr H p ∧ a ≠ p ∧ H a = some (.lst xs) ∧ Ats K (hid p H) xs ds ∧ NeatD (.lst ds) ∧ deep (.lst ds) ≤ 10 ∧ bulk (.lst ds) ≤ 12500 ∧
  ∀ H' v d, Go p H H' → At K (hid p H') v d → isHandD d = false → NeatD d → deep d ≤ 10 → bulk d ≤ 14500 → Q v H'
theorem ok__law_no_hand (T : Txt K mg w) : FnOk P w K mg base CX0 2 T.f__law_no_hand.f T.f__law_no_hand.fd ["spring", "hand"] (spNoHand K) := by
  refine T.f__law_no_hand.F.ok sc__law_no_hand (fun vs H Q E h => ?_) (fun cdv A outer s H vs Q E hr h => ?_)
  · obtain ⟨p, a, xs, ds, rfl, _⟩ := h
    rfl
  obtain ⟨p, a, xs, ds, rfl, hp, hap, ha, hxs, hne, hdp, hbk, q⟩ := h
  have hxl := Ats.len hxs
  have hdl := len_bulk (.lst ds)
  have hdl : ds.length ≤ 12500 := by
    have : (Dt.lst ds).items.length = ds.length := rfl
    omega
  refine ⟨_, (pss_cons (ps_set (i := 2) sc__law_no_hand.nd rfl (.inl rfl) (pe_call (ok__law_draw T) (hr.mono (by decide)) (by rfl) T.f__law_draw.g T.f__law_draw.F.kp T.f__law_draw.b .nil pass0 (pa_cons (pv 0) (pa_cons (pe_op op_add (pe_callB (call_lenK K) (by rfl) T.b_len (by decide +kernel) (pa_cons (pv 1) pa_nil)) pe_int) pa_nil))))
      (pss_cons (ps_set (i := 3) sc__law_no_hand.nd rfl (.inl rfl) (pe_lst (lits_cons (lit_tup (lits_cons (lit_str [108, 101, 102, 116] (by decide +kernel) (by decide)) (lits_cons lit_int lits_nil)) (by show _ ≤ sizeLine; decide)) (lits_cons (lit_tup (lits_cons (lit_str [114, 117, 98] (by decide +kernel) (by decide)) (lits_cons lit_neg lits_nil)) (by show _ ≤ sizeLine; decide)) (lits_cons (lit_tup (lits_cons (lit_str [99, 111, 112, 121] (by decide +kernel) (by decide)) (lits_cons lit_bl lits_nil)) (by show _ ≤ sizeLine; decide)) (lits_cons (lit_tup (lits_cons (lit_str [99, 117, 116] (by decide +kernel) (by decide)) (lits_cons lit_non lits_nil)) (by show _ ≤ sizeLine; decide)) (lits_cons (lit_tup (lits_cons (lit_str [115, 116, 114, 105, 107, 101] (by decide +kernel) (by decide)) (lits_cons (lit_str [49] (by decide +kernel) (by decide)) lits_nil)) (by show _ ≤ sizeLine; decide)) (lits_cons (lit_tup (lits_cons (lit_str [114, 105, 103, 104, 116] (by decide +kernel) (by decide)) lits_nil) (by show _ ≤ sizeLine; decide)) (lits_cons (lit_tup (lits_cons (lit_str [108, 101, 102, 116] (by decide +kernel) (by decide)) (lits_cons lit_int (lits_cons lit_int lits_nil))) (by show _ ≤ sizeLine; decide)) lits_nil)))))))))
      (pss_cons (ps_set (i := 3) sc__law_no_hand.nd rfl (.inl rfl) (pe_op op_cat (pv 3) (pe_lst (lits_cons (lit_tup (lits_cons (lit_str [103, 111] (by decide +kernel) (by decide)) (lits_cons lit_int lits_nil)) (by show _ ≤ sizeLine; decide)) (lits_cons (lit_tup (lits_cons (lit_str [119, 114, 105, 116, 101] (by decide +kernel) (by decide)) (lits_cons (lit_str [] (by decide +kernel) (by decide)) lits_nil)) (by show _ ≤ sizeLine; decide)) (lits_cons (lit_tup (lits_cons (lit_str [119, 114, 105, 116, 101] (by decide +kernel) (by decide)) (lits_cons (lit_str [65] (by decide +kernel) (by decide)) lits_nil)) (by show _ ≤ sizeLine; decide)) (lits_cons (lit_tup (lits_cons (lit_str [119, 114, 105, 116, 101] (by decide +kernel) (by decide)) (lits_cons lit_int lits_nil)) (by show _ ≤ sizeLine; decide)) (lits_cons (lit_tup (lits_cons (lit_str [119, 114, 105, 116, 101] (by decide +kernel) (by decide)) (lits_cons (lit_mulS 61 (by rfl) [97] (List.replicate 61 97) (by decide +kernel) (by decide +kernel) (by decide)) lits_nil)) (by show _ ≤ sizeLine; decide)) (lits_cons (lit_tup (lits_cons (lit_str [119, 114, 105, 116, 101] (by decide +kernel) (by decide)) lits_nil) (by show _ ≤ sizeLine; decide)) lits_nil)))))))))
      (pss_cons (ps_set (i := 3) sc__law_no_hand.nd rfl (.inl rfl) (pe_op op_cat (pv 3) (pe_lst (lits_cons (lit_tup (lits_cons (lit_str [112, 97, 115, 116, 101] (by decide +kernel) (by decide)) (lits_cons lit_int lits_nil)) (by show _ ≤ sizeLine; decide)) (lits_cons (lit_tup lits_nil (by show _ ≤ sizeLine; decide)) (lits_cons lit_non (lits_cons lit_int (lits_cons (lit_str [112, 97, 115, 116, 101] (by decide +kernel) (by decide)) (lits_cons (lit_tup (lits_cons (lit_str [76, 101, 102, 116] (by decide +kernel) (by decide)) (lits_cons lit_int lits_nil)) (by show _ ≤ sizeLine; decide)) (lits_cons (lit_tup (lits_cons lit_int (lits_cons (lit_str [108, 101, 102, 116] (by decide +kernel) (by decide)) lits_nil)) (by show _ ≤ sizeLine; decide)) (lits_cons (lit_lst lits_nil (by show _ ≤ sizeLine; decide)) (lits_cons lit_dic lits_nil))))))))))))
      (pss_cons (ps_set (i := 3) sc__law_no_hand.nd rfl (.inl rfl) (pe_op op_cat (pv 3) (pe_lst (lits_cons (lit_tup (lits_cons (lit_str [114, 105, 103, 104, 116] (by decide +kernel) (by decide)) (lits_cons lit_int lits_nil)) (by show _ ≤ sizeLine; decide)) (lits_cons (lit_tup (lits_cons (lit_str [119, 114, 105, 116, 101] (by decide +kernel) (by decide)) (lits_cons (lit_lst (lits_cons (lit_str [97] (by decide +kernel) (by decide)) lits_nil) (by show _ ≤ sizeLine; decide)) lits_nil)) (by show _ ≤ sizeLine; decide)) lits_nil)))))
      (pss_cons (ps_set (i := 4) sc__law_no_hand.nd rfl (.inl rfl) (pe_lst (lits_cons lit_non (lits_cons lit_int (lits_cons (lit_str [108, 101, 102, 116] (by decide +kernel) (by decide)) (lits_cons lit_dic (lits_cons lit_bl (lits_cons (lit_mulL 61 (by rfl) (lit_tup (lits_cons (lit_str [112, 97, 115, 116, 101] (by decide +kernel) (by decide)) lits_nil) (by show _ ≤ sizeLine; decide)) (by decide)) (lits_cons (lit_lst (lits_cons (lit_tup (lits_cons (lit_str [108, 101, 102, 116] (by decide +kernel) (by decide)) (lits_cons lit_int lits_nil)) (by show _ ≤ sizeLine; decide)) (lits_cons (lit_tup (lits_cons (lit_str [119, 114, 105, 116, 101] (by decide +kernel) (by decide)) (lits_cons (lit_mulS 31 (by rfl) [97] (List.replicate 31 97) (by decide +kernel) (by decide +kernel) (by decide)) lits_nil)) (by show _ ≤ sizeLine; decide)) lits_nil)) (by show _ ≤ sizeLine; decide)) lits_nil)))))))))
      (pss_cons (ps_expr (pe_bm PySem.F.plainAttrs_list PySem.F.slot_list_append PySem.F.type_list_append mt_append (pv 4) (pa_cons (lit_lst (lits_cons (lit_tup (lits_cons (lit_str [99, 117, 116] (by decide +kernel) (by decide)) (lits_cons lit_int lits_nil)) (by show _ ≤ sizeLine; decide)) (lits_cons (lit_tup (lits_cons (lit_str [112, 97, 115, 116, 101] (by decide +kernel) (by decide)) lits_nil) (by show _ ≤ sizeLine; decide)) lits_nil)) (by show _ ≤ sizeLine; decide)) pa_nil)))
      (pss_cons (ps_if (pt_cmpR op_eq (pe_call (ok__law_draw T) (hr.mono (by decide)) (by rfl) T.f__law_draw.g T.f__law_draw.F.kp T.f__law_draw.b .nil pass0 (pa_cons (pv 0) (pa_cons pe_int pa_nil))) pe_int (nomark _)) (pss_one (ps_ret (pe_ix ix_seq (pv 4) (pe_call (ok__law_draw T) (hr.mono (by decide)) (by rfl) T.f__law_draw.g T.f__law_draw.F.kp T.f__law_draw.b .nil pass0 (pa_cons (pv 0) (pa_cons pe_int pa_nil))) (fun _ _ => rfl)))) pss_nil)
      (pss_one (ps_ret (pe_op op_cat (pe_op op_cat (pe_slice sl_list (pv 1) po_none (po_some (pv 2))) (pe_lst (pa_cons (pe_ix ix_seq (pv 3) (pe_call (ok__law_draw T) (hr.mono (by decide)) (by rfl) T.f__law_draw.g T.f__law_draw.F.kp T.f__law_draw.b .nil pass0 (pa_cons (pv 0) (pa_cons pe_int pa_nil))) (fun _ _ => rfl)) pa_nil))) (pe_slice sl_list (pv 1) (po_some (pv 2)) po_none)))))))))))), ?_⟩
  walk_at "rd"
  refine ⟨_, rfl, _, rfl, len_row (.inl (SqL.of ha)) ⟨_, _, rfl, rfl, p, _, rfl, hp, by omega, small300 (by omega) (by omega), fun H1 r g1 r0 r1 => ?_⟩⟩
  obtain ⟨n, rfl⟩ := Int.eq_ofNat_of_zero_le r0
  have hnl : n ≤ xs.length := by omega
  have hxs1 := Ats.same g1.hid _ _ hxs
  have ha1 := g1.keep _ _ hap ha
  obtain ⟨sF, sS, sC, hps, _⟩ := id g1.spr
  -- some, and more, and more, and more
  intro H2 us1 s2 hus1
  refine ⟨by rw [Ats.len hus1]; show 7 ≤ sizeLine; decide, fun a1 na1 => ⟨_, rfl, ?_⟩⟩
  intro H3 us2 s3 hus2
  have L1 := Ats.len hus1
  have L2 := Ats.len hus2
  have k1 := s3 _ _ (upd_same (H := H2) (a := a1) (o := .lst us1))
  have s23 := (s2.trans (same_upd (o := .lst us1) na1)).trans s3
  have hus1 := Ats.same (since_mono ((same_upd (o := .lst us1) na1).trans s3)) _ _ hus1
  have hus2 := Ats.same (since_left (s2.trans (same_upd (o := .lst us1) na1))) _ _ hus2
  refine ⟨by rw [L2]; show 6 ≤ sizeLine; decide, fun a2 na2 => ⟨a1, a2, us1, us2, rfl, rfl, same_upd na2 _ _ k1, upd_same, ?_, fun a3 na3 => ⟨_, rfl, ?_⟩⟩⟩
  · rw [L1, L2]
    show 13 ≤ sizeLine
    decide
  have s34 := (same_upd (o := .lst us2) na2).trans (same_upd (o := .lst (us1 ++ us2)) na3)
  have s13 := s23.trans s34
  have hA := las_app (Ats.same (since_mono s34) _ _ hus1) (Ats.same (since_mono s34) _ _ hus2)
  have k3 := upd_same (H := upd H3 a2 (.lst us2)) (a := a3) (o := .lst (us1 ++ us2))
  generalize upd (upd H3 a2 (.lst us2)) a3 (.lst (us1 ++ us2)) = H4 at *
  clear hus1 hus2 k1
  have L3 : (us1 ++ us2).length = 13 := by rw [List.length_append, L1, L2]; rfl
  generalize us1 ++ us2 = us3 at *
  intro H5 us4 s5 hus4
  have L4 := Ats.len hus4
  refine ⟨by rw [L4]; show 9 ≤ sizeLine; decide, fun a4 na4 => ⟨a3, a4, us3, us4, rfl, rfl, same_upd na4 _ _ (s5 _ _ k3), upd_same, ?_, fun a5 na5 => ⟨_, rfl, ?_⟩⟩⟩
  · rw [L3, L4]
    show 22 ≤ sizeLine
    decide
  have s45 := s5.trans ((same_upd (o := .lst us4) na4).trans (same_upd (o := .lst (us3 ++ us4)) na5))
  have hB := las_app (Ats.same (since_mono s45) _ _ hA) (Ats.same (since_mono ((same_upd (o := .lst us4) na4).trans (same_upd (o := .lst (us3 ++ us4)) na5))) _ _ (Ats.same (since_left s13) _ _ hus4))
  have k5 := upd_same (H := upd H5 a4 (.lst us4)) (a := a5) (o := .lst (us3 ++ us4))
  have s15 := s13.trans s45
  generalize upd (upd H5 a4 (.lst us4)) a5 (.lst (us3 ++ us4)) = H6 at *
  clear hA hus4 k3
  have L5 : (us3 ++ us4).length = 22 := by rw [List.length_append, L3, L4]; rfl
  generalize us3 ++ us4 = us5 at *
  intro H7 us6 s7 hus6
  have L6 := Ats.len hus6
  refine ⟨by rw [L6]; show 2 ≤ sizeLine; decide, fun a6 na6 => ⟨a5, a6, us5, us6, rfl, rfl, same_upd na6 _ _ (s7 _ _ k5), upd_same, ?_, fun a7 na7 => ?_⟩⟩
  · rw [L5, L6]
    show 24 ≤ sizeLine
    decide
  have s67 := s7.trans ((same_upd (o := .lst us6) na6).trans (same_upd (o := .lst (us5 ++ us6)) na7))
  have hsome := las_app (Ats.same (since_mono s67) _ _ hB) (Ats.same (since_mono ((same_upd (o := .lst us6) na6).trans (same_upd (o := .lst (us5 ++ us6)) na7))) _ _ (Ats.same (since_left s15) _ _ hus6))
  have k7 := upd_same (H := upd H7 a6 (.lst us6)) (a := a7) (o := .lst (us5 ++ us6))
  have na7 : H1 a7 = none := ((s15.trans s7).trans (same_upd (o := .lst us6) na6)).free na7
  have s17 := s15.trans s67
  generalize upd (upd H7 a6 (.lst us6)) a7 (.lst (us5 ++ us6)) = H8 at *
  clear hB hus6 k5
  generalize us5 ++ us6 = us7 at *
  -- wrong
  intro H9 us8 s9 hus8
  have L8 := Ats.len hus8
  refine ⟨by rw [L8]; show 7 ≤ sizeLine; decide, fun a8 na8 => ⟨_, rfl, .inl ⟨rfl, _, SqL.of upd_same⟩, ?_⟩⟩
  intro H10 v10 s10 hv10
  have s89 := s9.trans (same_upd (o := .lst us8) na8)
  have na8' : H8 a8 = none := s9.free na8
  have na8'' : H1 a8 = none := (s17.trans s9).free na8
  have k8 := s10 _ _ (upd_same (H := H9) (a := a8) (o := .lst us8))
  refine ⟨a8, us8, _, rfl, rfl, k8, by rw [L8]; show 7 < sizeLine; decide, ?_⟩
  have sE : Same H1 (upd H10 a8 (.lst (us8 ++ [v10]))) := same_mut ((s17.trans s89).trans s10) na8''
  have g16 := Go.of_same g1.spr sE
  have ha7p : a7 ≠ p := g1.spr.ne na7
  have ha8p : a8 ≠ p := g1.spr.ne na8''
  have hsome : Ats K (hid p (upd H10 a8 (.lst (us8 ++ [v10])))) us7 _ := Ats.same (since_hid hps) _ _ (Ats.same (fun b o h => by
    obtain ⟨h1, h2⟩ := since_at h
    refine since_of h1 ?_
    rw [upd_ne (fun z => by rw [z] at h2; rw [h2] at na8'; cases na8')]
    exact s10 _ _ (s89 _ _ h2)) _ _ hsome)
  have hw : Ats K (hid p (upd H10 a8 (.lst (us8 ++ [v10])))) (us8 ++ [v10]) _ := Ats.same (since_hid hps) _ _ (las_app (Ats.same (fun b o h => by
    obtain ⟨h1, h2⟩ := since_at h
    refine since_of ((s17.free h1)) ?_
    have hb : b ≠ a8 := fun z => by rw [z, na8] at h2; cases h2
    rw [upd_ne hb]
    exact s10 _ _ (same_upd na8 _ _ h2)) _ _ hus8) (las_cons (At.same (fun b o h => by
    obtain ⟨h1, h2⟩ := since_at h
    have hb : b ≠ a8 := fun z => by rw [z, upd_same] at h1; cases h1
    rw [upd_ne hb] at h1
    refine since_of ((s17.trans s9).free h1) ?_
    rw [upd_ne hb]
    exact h2) _ _ hv10) las_nil))
  have k7 : (upd H10 a8 (.lst (us8 ++ [v10]))) a7 = some (.lst us7) := by
    rw [upd_ne (fun z => by rw [z, na8'] at k7; cases k7)]
    exact s10 _ _ (s89 _ _ k7)
  have k8 := upd_same (H := H10) (a := a8) (o := .lst (us8 ++ [v10]))
  have ha6 := g16.keep _ _ hap ha1
  have hxs6 := Ats.same g16.hid _ _ hxs1
  have g6 := g1.trans g16
  generalize upd H10 a8 (.lst (us8 ++ [v10])) = H11 at *
  refine ⟨_, rfl, p, 3, rfl, g6.spr, by decide, by decide, fun H12 r2 g7 r20 r23 => ⟨rfl, _, rfl, ite2 (fun _ => ?_) (fun _ => ?_)⟩⟩
  · have k8' := g7.keep _ _ ha8p k8
    refine ⟨_, rfl, _, rfl, p, 8, rfl, g7.spr, by decide, by decide, fun H13 r3 g8 r30 r38 => ?_⟩
    obtain ⟨j, rfl⟩ := Int.eq_ofNat_of_zero_le r30
    have hw := Ats.same (g7.trans g8).hid _ _ hw
    obtain ⟨d, v, hd, hv, hvd⟩ := las_lt hw (show j < 8 by omega) rfl
    have := all_at (f := fun d => !isHandD d && Tiny d) (by decide +kernel) hd
    simp only [Bool.and_eq_true, Bool.not_eq_true'] at this
    obtain ⟨t1, t2, t3⟩ := Tiny.fit this.2
    exact ix_lst (g8.keep _ _ ha8p k8') (at_ofA (j := j) rfl hv) (q _ _ _ ((g6.trans g7).trans g8) hvd this.1 ⟨t1, by omega, by omega⟩ (by omega) (by omega))
  · have ha7 := g7.keep _ _ hap ha6
    have k7' := g7.keep _ _ ha7p k7
    refine ⟨_, rfl, _, rfl, _, rfl, a, xs, rfl, SqL.of ha7, fun b nb => ?_⟩
    rw [(cut_to hnl).1]
    have hbp : b ≠ p := g7.spr.ne nb
    have gb := go_new (o := .lst (xs.take n)) g7 nb
    have kb := upd_same (H := H12) (a := b) (o := .lst (xs.take n))
    have ha8 := same_upd (o := .lst (xs.take n)) nb _ _ ha7
    have k7'' := same_upd (o := .lst (xs.take n)) nb _ _ k7'
    generalize upd H12 b (.lst (xs.take n)) = H13 at *
    refine ⟨_, rfl, _, rfl, p, 24, rfl, gb.spr, by decide, by decide, fun H14 r3 g9 r30 r318 => ?_⟩
    obtain ⟨j, rfl⟩ := Int.eq_ofNat_of_zero_le r30
    have g69 := gb.trans g9
    have hw := Ats.same g69.hid _ _ hsome
    obtain ⟨d, v, hd, hv, hvd⟩ := las_lt hw (show j < 24 by omega) rfl
    have := all_at (f := fun d => badKey d && Tiny d) (by decide +kernel) hd
    simp only [Bool.and_eq_true] at this
    obtain ⟨n1, n2, n3⟩ := neat_put (A := ds.take n) (B := ds.drop n) (List.take_append_drop n ds).symm hne hdp hbk this.2
    have h9 := g9.keep _ _ hbp kb
    have ha9 := g9.keep _ _ hap ha8
    refine ix_lst (g9.keep _ _ ha7p k7'') (at_ofA (j := j) rfl hv) ⟨by show 1 ≤ sizeLine; decide, fun c1 nc1 => ?_⟩
    have sc1 := same_upd (o := .lst [v]) nc1
    refine ⟨b, c1, _, _, rfl, rfl, sc1 _ _ h9, upd_same, ?_, fun c2 nc2 => ?_⟩
    · exact Nat.le_trans (show (xs.take n).length + [v].length ≤ 100001 by rw [List.length_take, List.length_singleton]; omega) (by decide)
    have sc2 := sc1.trans (same_upd (o := .lst (xs.take n ++ [v])) nc2)
    have kc2 := upd_same (H := upd H14 c1 (.lst [v])) (a := c2) (o := .lst (xs.take n ++ [v]))
    refine ⟨_, rfl, _, rfl, _, rfl, a, xs, rfl, SqL.of (sc2 _ _ ha9), fun c3 nc3 => ?_⟩
    rw [(cut_to hnl).2]
    have sc3 := sc2.trans (same_upd (o := .lst (xs.drop n)) nc3)
    have kc2' := same_upd (o := .lst (xs.drop n)) nc3 _ _ kc2
    refine ⟨c2, c3, _, _, rfl, rfl, kc2', upd_same, ?_, fun c4 nc4 => ?_⟩
    · exact Nat.le_trans (show (xs.take n ++ [v]).length + (xs.drop n).length ≤ 200001 by rw [List.length_append, List.length_take, List.length_singleton, List.length_drop]; omega) (by decide)
    have sc4 := sc3.trans (same_upd (o := .lst (xs.take n ++ [v] ++ xs.drop n)) nc4)
    have g4 := Go.of_same g9.spr sc4
    have hc4p : c4 ≠ p := (Go.of_same g9.spr sc3).spr.ne nc4
    have hall : Ats K (hid p H14) (xs.take n ++ [v] ++ xs.drop n) (ds.take n ++ [d] ++ ds.drop n) := by
      have hx9 := Ats.same g69.hid _ _ hxs6
      exact las_app (las_app (las_take n hx9) (las_cons hvd las_nil)) (las_drop n hx9)
    exact q _ _ _ ((g6.trans g69).trans g4) (la_lst (by rw [hid_ne hc4p]; exact upd_same) (Ats.same g4.hid _ _ hall)) (noHand_of this.1) n1 n2 n3

theorem HandL.ats {p : Addr} {H : Hp} {a : Addr} {ks : List Ky} {xs : List V} (h : HandL p H a ks) (hx : H a = some (.lst xs)) (hok : ∀ k ∈ ks, k.ok) : Ats K (hid p H) xs (ks.map fun k => .tup (kD k)) := by
  obtain ⟨_, ys, h2, h3⟩ := h
  rw [hx] at h2
  cases h2
  clear hx
  induction h3 with
  | nil => exact las_nil
  | @cons v k xs ks hv t ih =>
    rw [List.map_cons]
    obtain ⟨b, rfl, hb, hbk⟩ := hv
    exact las_cons (la_tup (by rw [hid_ne hb]; exact hbk) (ats_key _ (hok _ (List.mem_cons_self ..)))) (ih fun k hk => hok k (List.mem_cons_of_mem _ hk))
theorem dH_small {ks : List Ky} (hok : ∀ k ∈ ks, k.ok) (h60 : hwt ks ≤ 60) : bulk (dH ks) ≤ 12500 := by
  have gk : GoodH ks := ⟨hok, h60⟩
  have h1 := bulkAll_le (n := 200) (ds := ks.map fun k => Dt.tup (kD k)) fun d hd => by
    obtain ⟨k, hkm, rfl⟩ := List.mem_map.mp hd
    have h1 := kD_fits (hok k hkm) (Nat.le_trans (hwt_mem hkm) h60)
    unfold bulk
    have := bulkAll_le (n := 60) (ds := kD k) fun d hd => (h1 d hd).2.2
    have h2 := kD_len k
    have : (kD k).length * (60 + 1) ≤ 2 * 61 := Nat.mul_le_mul_right _ h2
    omega
  have h2 := gk.few
  rw [List.length_map] at h1
  have : ks.length * (200 + 1) ≤ 60 * 201 := Nat.mul_le_mul_right _ h2
  unfold dH bulk
  omega
def Mid (d : Dt) : Prop := FitD d ∧ deep d ≤ 10 ∧ bulk d ≤ 14500
def Sma (d : Dt) : Prop := FitD d ∧ deep d ≤ 10 ∧ bulk d ≤ 1000
theorem Sma.int {i : Int} (h : i.natAbs < 10 ^ 47) : Sma (.int i) := ⟨by unfold FitD; exact h, by simp only [deep]; omega, by simp only [bulk]; omega⟩
theorem Sma.tiny {d : Dt} (h : Tiny d = true) : Sma d := ⟨(Tiny.fit h).1, by have := (Tiny.fit h).2.1; omega, (Tiny.fit h).2.2⟩
theorem plain_fit {w : List Nat} (h : Plain w) : ∀ c ∈ w, c < 4294967296 := fun c hc => by
  have := plain_mem h hc
  rw [List.contains_iff_mem] at this
  have hk : ∀ c ∈ alpha, c < 4294967296 := by decide
  exact hk c this
theorem noS5 {s : Sh} (gs : GoodS s) (hw : s.w.length ≤ 20) : ∀ d ∈ ([.tup [.str s.w, .int ((s.w.length : Int) + 1), .str []], .non, .tup [.str s.w, .int (s.n : Int)], .tup [.str [65], .int 0, .str []], .tup [.str [], .int 0, .str (List.replicate 61 97)]] : List Dt), isSheetD d = false ∧ Sma d := by
  have hpl := plain_fit gs.w
  have hn := gs.n
  intro d hd
  simp only [List.mem_cons, List.not_mem_nil, or_false] at hd
  rcases hd with rfl | rfl | rfl | rfl | rfl
  · refine ⟨?_, ?_, ?_, ?_⟩
    · show (isPlain (.str s.w) && (isWithin (.int ((s.w.length : Int) + 1)) 0 s.w.length && isClip (.str []))) = false
      have : isWithin (.int ((s.w.length : Int) + 1)) 0 s.w.length = false := by
        unfold isWithin
        simp only [Bool.and_eq_false_imp, decide_eq_true_eq, decide_eq_false_iff_not]
        omega
      rw [this, Bool.false_and, Bool.and_false]
    · unfold FitD FitDs FitDs FitDs FitDs
      exact ⟨by unfold FitD; exact hpl, by unfold FitD; exact Nat.lt_of_le_of_lt (show _ ≤ 21 by omega) (by decide), by unfold FitD; exact fun c hc => (by cases hc), trivial⟩
    · simp only [deep, deepAll]; omega
    · simp only [bulk, bulkAll, List.length_nil]; omega
  · exact ⟨rfl, by unfold FitD; trivial, by simp only [deep]; omega, by simp only [bulk]; omega⟩
  · refine ⟨rfl, ?_, ?_, ?_⟩
    · unfold FitD FitDs FitDs FitDs
      exact ⟨by unfold FitD; exact hpl, by unfold FitD; exact Nat.lt_of_le_of_lt (show _ ≤ 20 by omega) (by decide), trivial⟩
    · simp only [deep, deepAll]; omega
    · simp only [bulk, bulkAll]; omega
  · exact ⟨by decide +kernel, (Tiny.fit (by decide +kernel)).1, by have := (Tiny.fit (d := .tup [.str [65], .int 0, .str []]) (by decide +kernel)).2.1; omega, by have := (Tiny.fit (d := .tup [.str [65], .int 0, .str []]) (by decide +kernel)).2.2; omega⟩
  · exact ⟨by decide +kernel, (Tiny.fit (by decide +kernel)).1, by have := (Tiny.fit (d := .tup [.str [], .int 0, .str (List.replicate 61 97)]) (by decide +kernel)).2.1; omega, by have := (Tiny.fit (d := .tup [.str [], .int 0, .str (List.replicate 61 97)]) (by decide +kernel)).2.2; omega⟩
theorem often8 {r : Int} (h0 : 0 ≤ r) (h : r < 100000000000000000000) : ∀ d ∈ ([.int (-1), .int 301, .int (301 + r), .bl true, .non, .str [49], .lst [.int 1], .tup []] : List Dt), isWithin d 0 300 = false ∧ Sma d := by
  intro d hd
  simp only [List.mem_cons, List.not_mem_nil, or_false] at hd
  rcases hd with rfl | rfl | rfl | rfl | rfl | rfl | rfl | rfl
  · exact ⟨by decide, .tiny (by decide +kernel)⟩
  · exact ⟨by decide, .tiny (by decide +kernel)⟩
  · refine ⟨?_, .int (Nat.lt_of_le_of_lt (show _ ≤ 100000000000000000301 by omega) (by decide))⟩
    unfold isWithin
    simp only [Bool.and_eq_false_imp, decide_eq_true_eq, decide_eq_false_iff_not]
    omega
  · exact ⟨rfl, .tiny (by decide +kernel)⟩
  · exact ⟨rfl, .tiny (by decide +kernel)⟩
  · exact ⟨rfl, .tiny (by decide +kernel)⟩
  · exact ⟨rfl, .tiny (by decide +kernel)⟩
  · exact ⟨rfl, .tiny (by decide +kernel)⟩
def dSh (s : Sh) : Dt := .tup [.str s.w, .int (s.n : Int), .str s.k]
theorem dSh_sheet {s : Sh} (gs : GoodS s) (hw : s.w.length ≤ 20) : isSheetD (dSh s) = true ∧ wordsOf (dSh s) ≤ 10000 ∧ Sma (dSh s) := by
  have hpl := plain_fit gs.w
  have hkl := plain_fit gs.k
  have hn := gs.n
  have hk := gs.kl
  refine ⟨?_, by show s.w.length ≤ 10000; omega, ?_, ?_, ?_⟩
  · show (isPlain (.str s.w) && (isWithin (.int (s.n : Int)) 0 s.w.length && isClip (.str s.k))) = true
    have e1 : isPlain (.str s.w) = true := gs.w
    have e2 : isWithin (.int (s.n : Int)) 0 s.w.length = true := by
      unfold isWithin
      simp only [Bool.and_eq_true, decide_eq_true_eq]
      omega
    have e3 : isClip (.str s.k) = true := by
      have e4 : isPlain (.str s.k) = true := gs.k
      show (isPlain (.str s.k) && decide (s.k.length ≤ 60)) = true
      rw [e4, decide_eq_true hk]
      rfl
    rw [e1, e2, e3]
    rfl
  · unfold dSh FitD FitDs FitDs FitDs FitDs
    exact ⟨by unfold FitD; exact hpl, by unfold FitD; exact Nat.lt_of_le_of_lt (show _ ≤ 20 by omega) (by decide), by unfold FitD; exact hkl, trivial⟩
  · simp only [dSh, deep, deepAll]; omega
  · simp only [dSh, bulk, bulkAll]; omega
def env11 (ds dh db dn dt : Dt) : Nat → Dt := fun i => [.non, .non, .non, ds, dh, db, dn, dt].getD i .non
theorem slots11 {p : Addr} {σ : L2.St} {H : Hp} {o : HO} {ds dh db dn dt : Dt} {v3 v4 v5 v6 v7 : V} (ho : H p = some o)
    (h3 : σ[3]? = some (some v3)) (h4 : σ[4]? = some (some v4)) (h5 : σ[5]? = some (some v5)) (h6 : σ[6]? = some (some v6)) (h7 : σ[7]? = some (some v7))
    (a3 : At K (hid p H) v3 ds) (a4 : At K (hid p H) v4 dh) (a5 : At K (hid p H) v5 db) (a6 : At K (hid p H) v6 dn) (a7 : At K (hid p H) v7 dt) : Slots K [3, 4, 5, 6, 7] [] p (env11 ds dh db dn dt) σ H := by
  refine ⟨⟨o, ho⟩, fun i hi => ?_, fun i hi => (by cases hi)⟩
  simp only [List.mem_cons, List.not_mem_nil, or_false] at hi
  rcases hi with rfl | rfl | rfl | rfl | rfl
  · exact ⟨_, h3, a3⟩
  · exact ⟨_, h4, a4⟩
  · exact ⟨_, h5, a5⟩
  · exact ⟨_, h6, a6⟩
  · exact ⟨_, h7, a7⟩
def nNoHand : List Nat := [78, 111, 72, 97, 110, 100]
def nNoSheet : List Nat := [78, 111, 83, 104, 101, 101, 116]
def nNoTimes : List Nat := [78, 111, 84, 105, 109, 101, 115]
def nNone : List Nat := [110, 111, 110, 101]
theorem n_NoHand : ("NoHand" : Str) = tx nNoHand := by decide +kernel
theorem n_NoSheet : ("NoSheet" : Str) = tx nNoSheet := by decide +kernel
theorem n_NoTimes : ("NoTimes" : Str) = tx nNoTimes := by decide +kernel
theorem n_none : ("none" : Str) = tx nNone := by decide +kernel
/-- a row: what is asked, with what, and what is due -/
def RowOk (T : Txt K mg w) (d : Dt) : Prop := ∃ (ask : Nat) (e h r : Dt) (w : List Nat), d = .tup [.int (ask : Int), e, h, r, .str w] ∧ ask ≤ 5 ∧ w.length ≤ 10 ∧ (∀ c ∈ w, c < 4294967296) ∧ Sma e ∧ Mid h ∧ Sma r ∧
  ((∃ D, Due T ask e h r D (tx w)) ∨ (tx w = "none" ∧ Fine ask e h r))
theorem RowOk.size (T : Txt K mg w) {d : Dt} (h : RowOk T d) : FitD d ∧ deep d ≤ 11 ∧ bulk d ≤ 16600 := by
  obtain ⟨ask, e, h, r, w, rfl, h1, h2, h3, h4, h5, h6, _⟩ := h
  refine ⟨?_, ?_, ?_⟩
  · unfold FitD FitDs FitDs FitDs FitDs FitDs FitDs
    exact ⟨by unfold FitD; exact Nat.lt_of_le_of_lt (show ((ask : Nat) : Int).natAbs ≤ 5 by omega) (by decide), h4.1, h5.1, h6.1, by unfold FitD; exact h3, trivial⟩
  · simp only [deep, deepAll]
    have := h4.2.1
    have := h5.2.1
    have := h6.2.1
    omega
  · simp only [bulk, bulkAll]
    have := h4.2.2
    have := h5.2.2
    have := h6.2.2
    omega
theorem row_due (T : Txt K mg w) {e h r : Dt} {ask : Nat} {D : Addr} {n : Str} (w : List Nat) (hn : n = tx w) (hd : Due T ask e h r D n) (he : Sma e) (hh : Mid h) (hr : Sma r) (ha : ask ≤ 5 := by decide) (hw : w.length ≤ 10 := by decide) (hc : ∀ c ∈ w, c < 4294967296 := by decide) : RowOk T (.tup [.int (ask : Int), e, h, r, .str w]) :=
  ⟨ask, e, h, r, w, rfl, ha, hw, hc, he, hh, hr, .inl ⟨D, hn ▸ hd⟩⟩
theorem row_fine (T : Txt K mg w) {e h r : Dt} {ask : Nat} (hf : Fine ask e h r) (he : Sma e) (hh : Mid h) (hr : Sma r) (ha : ask ≤ 5) : RowOk T (.tup [.int (ask : Int), e, h, r, .str nNone]) :=
  ⟨ask, e, h, r, nNone, rfl, ha, by decide, by decide, he, hh, hr, .inr ⟨n_none.symm, hf⟩⟩
def rows11 (ds dh db dn dt : Dt) : List Dt :=
  [.tup [.int 0, ds, db, .int 0, .str nNoHand], .tup [.int 1, ds, db, .int 0, .str nNoHand], .tup [.int 2, ds, db, .int 0, .str nNoHand]] ++
  [.tup [.int 3, ds, db, dt, .str nNoHand], .tup [.int 3, dn, db, dt, .str nNoSheet]] ++
  [.tup [.int 2, dn, dh, .int 0, .str nNoSheet], .tup [.int 3, ds, dh, dt, .str nNoTimes]]
theorem rows11_ok (T : Txt K mg w) {ds dh db dn dt : Dt} (hs : isSheetD ds = true) (hh : isHandD dh = true) (hb : isHandD db = false) (hn : isSheetD dn = false) (ht : isWithin dt 0 300 = false)
    (ms : Sma ds) (mh : Mid dh) (mb : Mid db) (mn : Sma dn) (mt : Sma dt) : ∀ d ∈ rows11 ds dh db dn dt, RowOk T d := by
  have s0 : Sma (.int 0) := .int (by decide)
  intro d hd
  unfold rows11 at hd
  simp only [List.mem_append, List.mem_cons, List.not_mem_nil, or_false] at hd
  rcases hd with (((rfl | rfl | rfl) | (rfl | rfl)) | (rfl | rfl))
  · exact row_due T (ask := 0) _ n_NoHand (.w hb) ms mb s0
  · exact row_due T (ask := 1) _ n_NoHand (.r hb) ms mb s0
  · exact row_due T (ask := 2) _ n_NoHand (.p2 hs hb) ms mb s0
  · exact row_due T (ask := 3) _ n_NoHand (.q2 hs hb) ms mb mt
  · exact row_due T (ask := 3) _ n_NoSheet (.q1 hn) mn mb mt
  · exact row_due T (ask := 2) _ n_NoSheet (.p1 hn) mn mh s0
  · exact row_due T (ask := 3) _ n_NoTimes (.q3 hs hh ht) ms mh mt
theorem neat_rows {ds : List Dt} (h : ds.length ≤ 15) (hr : ∀ d ∈ ds, FitD d ∧ deep d ≤ 11 ∧ bulk d ≤ 16600) : NeatD (.lst ds) := by
  have h1 := deepAll_le (n := 11) fun d hd => (hr d hd).2.1
  have h2 := bulkAll_le (n := 16600) fun d hd => (hr d hd).2.2
  have h3 : ds.length * (16600 + 1) ≤ 15 * 16601 := Nat.mul_le_mul h (Nat.le_refl _)
  refine ⟨?_, ?_, ?_⟩
  · unfold FitD
    exact fitDs_of fun d hd => (hr d hd).1
  · simp only [deep]
    omega
  · simp only [bulk]
    omega
theorem hid_frA {a : Addr} {H H' : Hp} (s : Same H H') (n : H a = none) : Same H (hid a H') := fun b o h => by
  rw [hid_ne (fun z => by rw [z, n] at h; cases h)]
  exact s b o h
theorem hid_slf {a : Addr} {H : Hp} : hid a H a = none := by
  unfold hid
  rw [if_pos rfl]
theorem hid_nn {a b : Addr} {H : Hp} (h : H b = none) : hid a H b = none := by
  by_cases e : b = a
  · subst e
    exact hid_slf
  · rw [hid_ne e]
    exact h
theorem hid2_mut {D p : Addr} {H : Hp} {o : HO} : Same (hid D (hid p H)) (hid D (hid p (upd H D o))) := fun b u h => by
  by_cases e : b = D
  · subst e
    rw [hid_slf] at h
    cases h
  · rw [hid_ne e] at h ⊢
    by_cases e2 : b = p
    · subst e2
      rw [hid_slf] at h
      cases h
    · rw [hid_ne e2] at h ⊢
      rw [upd_ne e]
      exact h
def spLaw (K : PySem.W.Frag) : Sp := fun vs H Q _ => ∃ (a : Addr) (ns : List Int), vs = [.ref a] ∧ SqL K H a (ns.map V.int) ∧ ns.length ≤ 63 ∧ ∀ H', Q (.bl true) H'
theorem ok_law (T : Txt K mg w) (hm : Mods base) : FnG P w K mg base CX0 9 T.f_law.f T.f_law.fd ["script"] (spLaw K) := by
  refine funG T.f_law.F sc_law (fun vs H Q E h => ?_) (fun cdv A outer s H vs Q E hg hr h => ?_)
  · obtain ⟨a, ns, rfl, _⟩ := h
    rfl
  obtain ⟨a, ns, rfl, hs, hlen, q⟩ := h
  refine ⟨_, (pss_cons (ps_set (i := 1) sc_law.nd rfl (.inr rfl) (pe_call (ok__law_spring T) (hr.mono (by decide)) (by rfl) T.f__law_spring.g T.f__law_spring.F.kp T.f__law_spring.b .nil pass0 (pa_cons (pv 0) pa_nil)))
      (pss_cons (ps_for PassesOwn.never rfl (pi_range1 (by rfl) T.b_range (pa_cons (pe_op op_add pe_int (pe_callB (call_min2 rfl) (by rfl) T.b_min (by decide +kernel) (pa_cons (pe_callB (call_lenK K) (by rfl) T.b_len (by decide +kernel) (pa_cons (pv 0) pa_nil)) (pa_cons pe_int pa_nil)))) pa_nil)) (pg_name (i := 2) sc_law.nd rfl (.inl rfl))
        (pss_cons (ps_asg (pe_tup (pa_cons (pe_call (ok__law_sheet T) (hr.mono (by decide)) (by rfl) T.f__law_sheet.g T.f__law_sheet.F.kp T.f__law_sheet.b .nil pass0 (pa_cons (pv 1) (pa_cons pe_int pa_nil))) (pa_cons (pe_call (ok__law_hand T) (hr.mono (by decide)) (by rfl) T.f__law_hand.g T.f__law_hand.F.kp T.f__law_hand.b .nil pass0 (pa_cons (pv 1) (pa_cons pe_int (pa_cons pe_int pa_nil)))) pa_nil))) (pg_tup (n := 2) rfl (pgs_cons (pg_name (i := 3) sc_law.nd rfl (.inr rfl)) (pgs_cons (pg_name (i := 4) sc_law.nd rfl (.inr rfl)) pgs_nil))))
      (pss_cons (ps_set (i := 5) sc_law.nd rfl (.inl rfl) (pe_call (ok__law_no_hand T) (hr.mono (by decide)) (by rfl) T.f__law_no_hand.g T.f__law_no_hand.F.kp T.f__law_no_hand.b .nil pass0 (pa_cons (pv 1) (pa_cons (pv 4) pa_nil))))
      (pss_cons (ps_set (i := 6) sc_law.nd rfl (.inl rfl) (pe_lst (pa_cons (pe_tup (pa_cons (pe_ix ix_seq (pv 3) pe_int (fun _ _ => rfl)) (pa_cons (pe_op op_add (pe_callB (call_lenK K) (by rfl) T.b_len (by decide +kernel) (pa_cons (pe_ix ix_seq (pv 3) pe_int (fun _ _ => rfl)) pa_nil)) pe_int) (pa_cons (lit_str [] (by decide +kernel) (by decide)) pa_nil)))) (pa_cons pe_non (pa_cons (pe_slice sl_tup (pv 3) po_none (po_some pe_int)) (pa_cons (lit_tup (lits_cons (lit_str [65] (by decide +kernel) (by decide)) (lits_cons lit_int (lits_cons (lit_str [] (by decide +kernel) (by decide)) lits_nil))) (by show _ ≤ sizeLine; decide)) (pa_cons (lit_tup (lits_cons (lit_str [] (by decide +kernel) (by decide)) (lits_cons lit_int (lits_cons (lit_mulS 61 (by rfl) [97] (List.replicate 61 97) (by decide +kernel) (by decide +kernel) (by decide)) lits_nil))) (by show _ ≤ sizeLine; decide)) pa_nil)))))))
      (pss_cons (ps_set (i := 6) sc_law.nd rfl (.inl rfl) (pe_ix ix_seq (pv 6) (pe_call (ok__law_draw T) (hr.mono (by decide)) (by rfl) T.f__law_draw.g T.f__law_draw.F.kp T.f__law_draw.b .nil pass0 (pa_cons (pv 1) (pa_cons pe_int pa_nil))) (fun _ _ => rfl)))
      (pss_cons (ps_set (i := 7) sc_law.nd rfl (.inl rfl) (pe_ix ix_seq (pe_lst (pa_cons lit_neg (pa_cons pe_int (pa_cons (pe_op op_add pe_int (pe_call (ok__law_draw T) (hr.mono (by decide)) (by rfl) T.f__law_draw.g T.f__law_draw.F.kp T.f__law_draw.b .nil pass0 (pa_cons (pv 1) (pa_cons (pe_op op_pow pe_int pe_int) pa_nil)))) (pa_cons pe_bl (pa_cons pe_non (pa_cons pe_str (pa_cons (lit_lst (lits_cons lit_int lits_nil) (by show _ ≤ sizeLine; decide)) (pa_cons (lit_tup lits_nil (by show _ ≤ sizeLine; decide)) pa_nil))))))))) (pe_call (ok__law_draw T) (hr.mono (by decide)) (by rfl) T.f__law_draw.g T.f__law_draw.F.kp T.f__law_draw.b .nil pass0 (pa_cons (pv 1) (pa_cons pe_int pa_nil))) (fun _ _ => rfl)))
      (pss_cons (ps_set (i := 8) sc_law.nd rfl (.inl rfl) (tg_new (tgs_cons (tg_tup (tgs_cons (tg_lit (U := [3, 4, 5, 6, 7]) (I := []) lit_int) (tgs_cons (tg_var (U := [3, 4, 5, 6, 7]) (I := []) (pv 3) (by decide)) (tgs_cons (tg_var (U := [3, 4, 5, 6, 7]) (I := []) (pv 5) (by decide)) (tgs_cons (tg_lit (U := [3, 4, 5, 6, 7]) (I := []) lit_int) (tgs_cons (tg_lit (U := [3, 4, 5, 6, 7]) (I := []) (lit_str [78, 111, 72, 97, 110, 100] (by decide +kernel) (by decide))) (tgs_nil (U := [3, 4, 5, 6, 7]) (I := []))))))) (fun ρ => few_le (by simp only [List.length_cons, List.length_nil]; omega))) (tgs_cons (tg_tup (tgs_cons (tg_lit (U := [3, 4, 5, 6, 7]) (I := []) lit_int) (tgs_cons (tg_var (U := [3, 4, 5, 6, 7]) (I := []) (pv 3) (by decide)) (tgs_cons (tg_var (U := [3, 4, 5, 6, 7]) (I := []) (pv 5) (by decide)) (tgs_cons (tg_lit (U := [3, 4, 5, 6, 7]) (I := []) lit_int) (tgs_cons (tg_lit (U := [3, 4, 5, 6, 7]) (I := []) (lit_str [78, 111, 72, 97, 110, 100] (by decide +kernel) (by decide))) (tgs_nil (U := [3, 4, 5, 6, 7]) (I := []))))))) (fun ρ => few_le (by simp only [List.length_cons, List.length_nil]; omega))) (tgs_cons (tg_tup (tgs_cons (tg_lit (U := [3, 4, 5, 6, 7]) (I := []) lit_int) (tgs_cons (tg_var (U := [3, 4, 5, 6, 7]) (I := []) (pv 3) (by decide)) (tgs_cons (tg_var (U := [3, 4, 5, 6, 7]) (I := []) (pv 5) (by decide)) (tgs_cons (tg_lit (U := [3, 4, 5, 6, 7]) (I := []) lit_int) (tgs_cons (tg_lit (U := [3, 4, 5, 6, 7]) (I := []) (lit_str [78, 111, 72, 97, 110, 100] (by decide +kernel) (by decide))) (tgs_nil (U := [3, 4, 5, 6, 7]) (I := []))))))) (fun ρ => few_le (by simp only [List.length_cons, List.length_nil]; omega))) (tgs_nil (U := [3, 4, 5, 6, 7]) (I := []))))) (fun ρ => few_le (by simp only [List.length_cons, List.length_nil]; omega))))
      (pss_cons (ps_set (i := 8) sc_law.nd rfl (.inl rfl) (tg_join (pv 8) (tgs_cons (tg_tup (tgs_cons (tg_lit (U := [3, 4, 5, 6, 7]) (I := []) lit_int) (tgs_cons (tg_var (U := [3, 4, 5, 6, 7]) (I := []) (pv 3) (by decide)) (tgs_cons (tg_var (U := [3, 4, 5, 6, 7]) (I := []) (pv 5) (by decide)) (tgs_cons (tg_var (U := [3, 4, 5, 6, 7]) (I := []) (pv 7) (by decide)) (tgs_cons (tg_lit (U := [3, 4, 5, 6, 7]) (I := []) (lit_str [78, 111, 72, 97, 110, 100] (by decide +kernel) (by decide))) (tgs_nil (U := [3, 4, 5, 6, 7]) (I := []))))))) (fun ρ => few_le (by simp only [List.length_cons, List.length_nil]; omega))) (tgs_cons (tg_tup (tgs_cons (tg_lit (U := [3, 4, 5, 6, 7]) (I := []) lit_int) (tgs_cons (tg_var (U := [3, 4, 5, 6, 7]) (I := []) (pv 6) (by decide)) (tgs_cons (tg_var (U := [3, 4, 5, 6, 7]) (I := []) (pv 5) (by decide)) (tgs_cons (tg_var (U := [3, 4, 5, 6, 7]) (I := []) (pv 7) (by decide)) (tgs_cons (tg_lit (U := [3, 4, 5, 6, 7]) (I := []) (lit_str [78, 111, 83, 104, 101, 101, 116] (by decide +kernel) (by decide))) (tgs_nil (U := [3, 4, 5, 6, 7]) (I := []))))))) (fun ρ => few_le (by simp only [List.length_cons, List.length_nil]; omega))) (tgs_nil (U := [3, 4, 5, 6, 7]) (I := [])))) (fun ρ => by simp only [List.length_cons, List.length_nil]; omega)))
      (pss_cons (ps_set (i := 8) sc_law.nd rfl (.inl rfl) (tg_join (pv 8) (tgs_cons (tg_tup (tgs_cons (tg_lit (U := [3, 4, 5, 6, 7]) (I := []) lit_int) (tgs_cons (tg_var (U := [3, 4, 5, 6, 7]) (I := []) (pv 6) (by decide)) (tgs_cons (tg_var (U := [3, 4, 5, 6, 7]) (I := []) (pv 4) (by decide)) (tgs_cons (tg_lit (U := [3, 4, 5, 6, 7]) (I := []) lit_int) (tgs_cons (tg_lit (U := [3, 4, 5, 6, 7]) (I := []) (lit_str [78, 111, 83, 104, 101, 101, 116] (by decide +kernel) (by decide))) (tgs_nil (U := [3, 4, 5, 6, 7]) (I := []))))))) (fun ρ => few_le (by simp only [List.length_cons, List.length_nil]; omega))) (tgs_cons (tg_tup (tgs_cons (tg_lit (U := [3, 4, 5, 6, 7]) (I := []) lit_int) (tgs_cons (tg_var (U := [3, 4, 5, 6, 7]) (I := []) (pv 3) (by decide)) (tgs_cons (tg_var (U := [3, 4, 5, 6, 7]) (I := []) (pv 4) (by decide)) (tgs_cons (tg_var (U := [3, 4, 5, 6, 7]) (I := []) (pv 7) (by decide)) (tgs_cons (tg_lit (U := [3, 4, 5, 6, 7]) (I := []) (lit_str [78, 111, 84, 105, 109, 101, 115] (by decide +kernel) (by decide))) (tgs_nil (U := [3, 4, 5, 6, 7]) (I := []))))))) (fun ρ => few_le (by simp only [List.length_cons, List.length_nil]; omega))) (tgs_nil (U := [3, 4, 5, 6, 7]) (I := [])))) (fun ρ => by simp only [List.length_cons, List.length_nil]; omega)))
      (pss_cons (ps_set (i := 8) sc_law.nd rfl (.inl rfl) (pe_op op_cat (pv 8) (pe_lc (own := [("ask", 9)]) rfl sc_law.nd (pi_range1 (by rfl) T.b_range (pa_cons pe_int pa_nil)) (blkOk_by (own := [("ask", 9)]) (N := N_law) (sc := defScope s_law) (by decide +kernel)) (fun _ _ _ _ _ => (pg_name (i := 9) sc_law.nd rfl (.inl rfl))) (fun _ _ _ _ _ => pts_nil) (fun _ _ _ _ _ => (pe_tup (pa_cons (pv 9) (pa_cons (pv 3) (pa_cons (pv 4) (pa_cons (pe_ix (ix_seqK K) (pe_lst (pa_cons pe_int (pa_cons pe_int (pa_cons pe_int pa_nil)))) (pe_call (ok__law_draw T) (hr.mono (by decide)) (by rfl) T.f__law_draw.g T.f__law_draw.F.kp T.f__law_draw.b .nil pass0 (pa_cons (pv 1) (pa_cons pe_int pa_nil))) (fun _ _ => rfl)) (pa_cons pe_str pa_nil))))))))))
      (pss_cons (ps_set (i := 10) sc_law.nd rfl (.inl rfl) (pe_callB (call_reprD hm hg hr.units) (by rfl) T.b_repr (by decide +kernel) (pa_cons (pv 8) pa_nil)))
      (pss_cons (ps_for PassesOwn.never rfl (pi_list (pv 8)) (pg_tup (n := 5) rfl (pgs_cons (pg_name (i := 9) sc_law.nd rfl (.inl rfl)) (pgs_cons (pg_name (i := 11) sc_law.nd rfl (.inl rfl)) (pgs_cons (pg_name (i := 12) sc_law.nd rfl (.inl rfl)) (pgs_cons (pg_name (i := 13) sc_law.nd rfl (.inl rfl)) (pgs_cons (pg_name (i := 14) sc_law.nd rfl (.inl rfl)) pgs_nil))))))
        (pss_one (ps_if (pt_cmpR op_ne (pe_call (ok__law_asked T) (hr.mono (by decide)) (by rfl) T.f__law_asked.g T.f__law_asked.F.kp T.f__law_asked.b .nil pass0 (pa_cons (pv 9) (pa_cons (pv 11) (pa_cons (pv 12) (pa_cons (pv 13) pa_nil))))) (pv 14) (nomark _)) (pss_one (ps_ret pe_bl)) pss_nil)))
      (pss_one (ps_if (pt_cmpR op_ne (pe_callB (call_reprD hm hg hr.units) (by rfl) T.b_repr (by decide +kernel) (pa_cons (pv 8) pa_nil)) (pv 10) (nomark _)) (pss_one (ps_ret pe_bl)) pss_nil))))))))))))))
      (pss_one (ps_ret pe_bl)))), ?_⟩
  walk_at "rd"
  refine ⟨_, rfl, a, ns, rfl, hs, hlen, fun H1 p s1 fp spr => ?_⟩
  refine fr_rng1 ?_
  walk_at "rd"
  refine ⟨_, rfl, len_row (.inl (s1.seq hs)) ⟨_, _, rfl, ?_⟩⟩
  refine ⟨_, _, rfl, rfl, _, rfl, by split <;> omega, by split <;> omega, ForGo.range
    (fun i σ H2 => ∃ y2 y3 y4 y5 y6 y7 y8 y9 y10 y11 y12 y13 y14, σ = [some (.ref a), some (.ref p), y2, y3, y4, y5, y6, y7, y8, y9, y10, y11, y12, y13, y14] ∧ Go p H1 H2)
    ⟨_, _, _, _, _, _, _, _, _, _, _, _, _, rfl, Go.refl spr⟩ ?_ ?_⟩
  · rintro i σ H2 hi ⟨y2, y3, y4, y5, y6, y7, y8, y9, y10, y11, y12, y13, y14, rfl, g2⟩
    walk_at "rd"
    refine ⟨_, rfl, p, 20, rfl, g2.spr, by decide, by decide, fun H3 sa s g3 hsp hsa gs hsl => ?_⟩
    refine ⟨_, rfl, p, 9, 4, rfl, g3.spr, by decide, by decide, by decide, by decide, fun H4 t ks g4 nt hL hok hw60 => ?_⟩
    have gk : GoodH ks := ⟨hok, hw60⟩
    obtain ⟨hhD, hwD⟩ := hand_dH gk
    obtain ⟨df, dd, _⟩ := dH_fits gk
    have db := dH_small hok hw60
    have g14 := (g2.trans g3).trans g4
    have hsa4 := g4.keep _ _ hsp hsa
    refine ⟨by show 2 ≤ sizeLine; decide, fun c nc => ⟨c, _, rfl, SqT.of upd_same, rfl, _, _, rfl, _, _, rfl, rfl, ?_⟩⟩
    have sc := same_upd (o := .tup [V.ref sa, V.ref t]) nc
    have hcp : c ≠ p := g14.spr.ne nc
    have hL5 := hL.go (.of_same g14.spr sc)
    have g15 := g14.same sc
    have hsa5 := sc _ _ hsa4
    generalize upd H4 c (.tup [V.ref sa, V.ref t]) = H5 at *
    obtain ⟨xs, hxs, hpx⟩ := id hL5.2
    dsimp only [List.set]
    -- bad
    refine ⟨_, rfl, _, rfl, p, t, xs, _, rfl, g15.spr, hL5.1, hxs, hL5.ats hxs hok, (dH_neat gk).d, by show deep (dH ks) ≤ 10; omega, db, fun H6 vb dbad g6 hvb hnb hneb hdb hbb => ?_⟩
    have g16 := g15.trans g6
    have hsa6 := g6.keep _ _ hsp hsa5
    have ws := gs.wl
    have hwn : s.w.length ≤ 20 := by omega
    refine ⟨_, rfl, ix_row (.inr (SqT.of hsa6)) (at_ofA (j := 0) rfl rfl) ⟨_, rfl, ix_row (.inr (SqT.of hsa6)) (at_ofA (j := 0) rfl rfl) (len_tx ws ⟨_, _, rfl, rfl, fun H7 v7 s7 hv7 => ⟨by show 3 ≤ sizeLine; decide, fun c7 nc7 => ?_⟩⟩)⟩⟩
    unfold At at hv7
    obtain ⟨rfl, _⟩ := hv7
    have S7 := s7.trans (same_upd (o := .tup [V.str (tx s.w), V.int ((s.w.length : Int) + 1), V.str (tx [])]) nc7)
    have g17 := g16.same S7
    have hc7p : c7 ≠ p := (g16.same s7).spr.ne nc7
    have a7 : At K (hid p (upd H7 c7 (.tup [V.str (tx s.w), V.int ((s.w.length : Int) + 1), V.str (tx [])]))) (.ref c7) (.tup [.str s.w, .int ((s.w.length : Int) + 1), .str []]) := la_tup (by rw [hid_ne hc7p]; exact upd_same) (las_cons (la_str ws) (las_cons la_int (las_cons (la_str (by decide)) las_nil)))
    have hsa7 := S7 _ _ hsa6
    refine ⟨_, rfl, _, rfl, sa, _, rfl, SqT.of hsa7, ?_, fun c8 nc8 => ?_⟩
    · rintro ⟨_, z⟩
      exact absurd z (by show ¬ HT.sIx 3 3 (some ((2 : Nat) : Int)) = 3; rw [HT.sIx_nat]; decide)
    have ecut : cutV (Sh.vs s) none (some 2) = [V.str (tx s.w), V.int (s.n : Int)] := (cut_to (xs := Sh.vs s) (n := 2) (by show 2 ≤ 3; decide)).1
    rw [ecut]
    have hc8p : c8 ≠ p := g17.spr.ne nc8
    have s8 := same_upd (o := .tup [V.str (tx s.w), V.int (s.n : Int)]) nc8
    have a8 : At K (hid p (upd (upd H7 c7 (.tup [V.str (tx s.w), V.int ((s.w.length : Int) + 1), V.str (tx [])])) c8 (.tup [V.str (tx s.w), V.int (s.n : Int)]))) (.ref c8) (.tup [.str s.w, .int (s.n : Int)]) := la_tup (by rw [hid_ne hc8p]; exact upd_same) (las_cons (la_str ws) (las_cons la_int las_nil))
    intro H9 v9 s9 hv9 H10 v10 s10 hv10
    refine ⟨by show 5 ≤ sizeLine; decide, fun c11 nc11 => ⟨_, rfl, _, rfl, p, 5, rfl, (((g17.same s8).same s9).same s10).spr.same (same_upd nc11), by decide, by decide, fun H12 r12 g12 r120 r125 => ?_⟩⟩
    have sB := (s8.trans s9).trans s10
    have s11 := same_upd (o := .lst [V.ref c7, .non, .ref c8, v9, v10]) nc11
    obtain ⟨q7F, q7S, q7C, hp7, _⟩ := id g17.spr
    obtain ⟨q9F, q9S, q9C, hp9, _⟩ := id ((g17.same s8).same s9).spr
    have L11 : Ats K (hid p (upd H10 c11 (.lst [V.ref c7, .non, .ref c8, v9, v10]))) [V.ref c7, .non, .ref c8, v9, v10] [.tup [.str s.w, .int ((s.w.length : Int) + 1), .str []], .non, .tup [.str s.w, .int (s.n : Int)], .tup [.str [65], .int 0, .str []], .tup [.str [], .int 0, .str (List.replicate 61 97)]] :=
      las_cons (At.same (hid_mono (sB.trans s11)) _ _ a7) (las_cons la_non (las_cons (At.same (hid_mono ((s9.trans s10).trans s11)) _ _ a8) (las_cons (At.same (hid_mono (s10.trans s11)) _ _ (At.same (since_hid (s8 _ _ hp7)) _ _ hv9)) (las_cons (At.same (hid_mono s11) _ _ (At.same (since_hid hp9) _ _ hv10)) las_nil))))
    have hc11p : c11 ≠ p := (((g17.same s8).same s9).same s10).spr.ne nc11
    have g611 := (Go.of_same g16.spr S7).same (sB.trans s11)
    have g612 := g611.trans g12
    have L12 := Ats.same g12.hid _ _ L11
    obtain ⟨j12, rfl⟩ := Int.eq_ofNat_of_zero_le r120
    obtain ⟨dns, vns, hdns, hvns, hns⟩ := las_lt L12 (show j12 < 5 by omega) rfl
    refine ix_lst (g12.keep _ _ hc11p upd_same) (at_ofA (j := j12) rfl hvns) ?_
    have g112 := g16.trans g612
    have hnsb : isSheetD dns = false ∧ Sma dns := noS5 gs hwn dns (List.mem_of_getElem? hdns)
    have hvb12 := At.same g612.hid _ _ hvb
    clear L11 L12 hv9 hv10 a7 a8
    -- often_so
    intro H13 v13 s13 hv13
    unfold At at hv13
    subst hv13
    refine ⟨_, rfl, _, _, rfl, rfl, ⟨by decide, by decide, by decide⟩, p, _, rfl, (g112.same s13).spr, by decide, by decide, fun H14 r14 g14 r140 r14m => ⟨_, _, rfl, rfl, ?_⟩⟩
    have r14m : r14 < 100000000000000000000 := r14m
    have g1214 := (Go.of_same g112.spr s13).trans g14
    have g114 := g112.trans g1214
    intro H15 v15 s15 hv15 H16 v16 s16 hv16
    refine ⟨by show 8 ≤ sizeLine; decide, fun c17 nc17 => ⟨_, rfl, p, 8, rfl, ((g114.same s15).same s16).spr.same (same_upd nc17), by decide, by decide, fun H18 r18 g18 r180 r188 => ?_⟩⟩
    obtain ⟨q14F, q14S, q14C, hp14, _⟩ := id g114.spr
    have s17 := same_upd (o := .lst [V.int (-1), .int 301, .int (301 + r14), .bl true, .non, .str "1", v15, v16]) nc17
    have L17 : Ats K (hid p (upd H16 c17 (.lst [V.int (-1), .int 301, .int (301 + r14), .bl true, .non, .str "1", v15, v16]))) [V.int (-1), .int 301, .int (301 + r14), .bl true, .non, .str "1", v15, v16] [.int (-1), .int 301, .int (301 + r14), .bl true, .non, .str [49], .lst [.int 1], .tup []] :=
      las_cons la_int (las_cons la_int (las_cons la_int (las_cons la_bl (las_cons la_non (las_cons (by rw [show ("1" : Str) = tx [49] by decide +kernel]; exact la_str (by decide)) (las_cons (At.same (hid_mono (s16.trans s17)) _ _ (At.same (since_hid hp14) _ _ hv15)) (las_cons (At.same (hid_mono s17) _ _ (At.same (since_hid (s15 _ _ hp14)) _ _ hv16)) las_nil)))))))
    have hc17p : c17 ≠ p := ((g114.same s15).same s16).spr.ne nc17
    have g1417 := Go.of_same g114.spr ((s15.trans s16).trans s17)
    have L18 := Ats.same g18.hid _ _ L17
    obtain ⟨j18, rfl⟩ := Int.eq_ofNat_of_zero_le r180
    obtain ⟨dof, vof, hdof, hvof, hof⟩ := las_lt L18 (show j18 < 8 by omega) rfl
    refine ix_lst (g18.keep _ _ hc17p upd_same) (at_ofA (j := j18) rfl hvof) ?_
    obtain ⟨hofW, hofS⟩ := often8 r140 r14m dof (List.mem_of_getElem? hdof)
    have g1218 := (g1214.trans g1417).trans g18
    have g118 := g112.trans g1218
    have hvb18 := At.same g1218.hid _ _ hvb12
    have hns18 : At K (hid p H18) vns dns := At.same g1218.hid _ _ hns
    have hof18 : At K (hid p H18) vof dof := hof
    have g518 := (g6.trans g612).trans g1218
    have hL18 := hL5.go g518
    have hh18 : At K (hid p H18) (.ref t) (dH ks) := at_dH hL18 hok
    have hsa18 := g518.keep _ _ hsp hsa5
    have hs18 : At K (hid p H18) (.ref sa) (dSh s) := la_tup (by rw [hid_ne hsp]; exact hsa18) (las_cons (la_str ws) (las_cons la_int (las_cons (la_str (Nat.le_trans gs.kl (by decide))) las_nil)))
    obtain ⟨q18F, q18S, q18C, hp18, _⟩ := id g118.spr
    clear L17 L18 hv15 hv16 hvb12 hvb hns hof hL5 hL
    have re : ∀ {σ' : L2.St} {H' : Hp}, Same H18 H' → σ'[3]? = some (some (.ref sa)) → σ'[4]? = some (some (.ref t)) → σ'[5]? = some (some vb) → σ'[6]? = some (some vns) → σ'[7]? = some (some vof) →
        Slots K [3, 4, 5, 6, 7] [] p (env11 (dSh s) (dH ks) dbad dns dof) σ' H' := fun e h3 h4 h5 h6 h7 =>
      slots11 (e _ _ hp18) h3 h4 h5 h6 h7 (At.same (hid_mono e) _ _ hs18) (At.same (hid_mono e) _ _ hh18) (At.same (hid_mono e) _ _ hvb18) (At.same (hid_mono e) _ _ hns18) (At.same (hid_mono e) _ _ hof18)
    refine ⟨p, _, re (Same.refl _) rfl rfl rfl rfl rfl, fun H19 vs19 a19 s19 na19 hv19 => ?_⟩
    have e19 := s19.trans (same_upd (o := .lst vs19) na19)
    refine ⟨p, _, a19, vs19, _, re e19 rfl rfl rfl rfl rfl, rfl, upd_same, Ats.same (hid_mono (same_upd na19)) _ _ hv19, by show 3 ≤ 10000; decide, fun H20 vs20 a20 s20 na20 hv20 => ?_⟩
    have e20 := (e19.trans s20).trans (same_upd (o := .lst vs20) na20)
    refine ⟨p, _, a20, vs20, _, re e20 rfl rfl rfl rfl rfl, rfl, upd_same, Ats.same (hid_mono (same_upd na20)) _ _ hv20, by show 5 ≤ 10000; decide, fun H21 vs21 a21 s21 na21 hv21 => ?_⟩
    have e21 := (e20.trans s21).trans (same_upd (o := .lst vs21) na21)
    have hv21 : Ats K (hid p (upd H21 a21 (.lst vs21))) vs21 (rows11 (dSh s) (dH ks) dbad dns dof) := Ats.same (hid_mono (same_upd (o := .lst vs21) na21)) _ _ hv21
    have hps22 := e21 _ _ hp18
    obtain ⟨hshA, hshB, hshC⟩ := dSh_sheet gs hwn
    have mh : Mid (dH ks) := ⟨fitD_of _ df, by omega, by omega⟩
    have mb : Mid dbad := ⟨hneb.1, hdb, hbb⟩
    have hro := rows11_ok T hshA hhD hnb hnsb.1 hofW hshC mh mb hnsb.2 hofS
    have hs22 := At.same (hid_mono e21) _ _ hs18
    have hh22 := At.same (hid_mono e21) _ _ hh18
    have g122 := g118.same e21
    have hk21 := upd_same (H := H21) (a := a21) (o := .lst vs21)
    have ha21p : a21 ≠ p := (g118.same (e20.trans s21)).spr.ne na21
    generalize upd H21 a21 (.lst vs21) = H22 at *
    clear hv19 hv20 e19 e20 re hvb18 hns18 hof18 hs18 hh18
    refine ⟨_, rfl, lc_rng1 ?_⟩
    walk_at "rd"
    refine ⟨_, rfl, by decide, by decide, fun D nD => ?_⟩
    have hDp : D ≠ p := g122.spr.ne nD
    have hDn : hid p H22 D = none := hid_nn nD
    have g22D := Go.of_same g122.spr (same_upd (o := .lst []) nD)
    refine LcGo.range (fun j H3 => Go p H22 H3 ∧ ∃ ws es, H3 D = some (.lst ws) ∧ Ats K (hid D (hid p H3)) ws es ∧ es.length = j ∧ ∀ d ∈ es, RowOk T d)
      ⟨g22D, [], [], upd_same, las_nil, rfl, fun d hd => (by cases hd)⟩ ?_ ?_
    · rintro j H3 hj ⟨g3, ws, es, hD, hws, hel, hes⟩
      walk_at "rd"
      refine ⟨rfl, _, rfl, _, rfl, _, rfl, by show 3 ≤ sizeLine; decide, fun l nl => ⟨_, rfl, p, 3, rfl, (g122.trans g3).spr.same (same_upd nl), by decide, by decide, fun H4 r g4 r0 r3 => ?_⟩⟩
      have hlp : l ≠ p := (g122.trans g3).spr.ne nl
      have hj : j < 4 := hj
      obtain ⟨ov, hov, ho1⟩ : ∃ m : Nat, atI [V.int 0, V.int 1, V.int 3] r = some (.int (m : Int)) ∧ m ≤ 3 := by
        have : r = 0 ∨ r = 1 ∨ r = 2 := by omega
        rcases this with rfl | rfl | rfl
        · exact ⟨0, rfl, by decide⟩
        · exact ⟨1, rfl, by decide⟩
        · exact ⟨3, rfl, by decide⟩
      have g34 := (Go.of_same g3.spr (same_upd (o := .lst [V.int 0, .int 1, .int 3]) nl)).trans g4
      refine ix_lst (g4.keep _ _ hlp upd_same) hov ⟨by show 5 ≤ sizeLine; decide, fun b nb => ?_⟩
      have hbp : b ≠ p := g34.spr.ne nb
      have sb := same_upd (o := .tup [V.int (0 + (j : Int)), .ref sa, .ref t, .int (ov : Int), .str "none"]) nb
      have hD4 := g34.keep _ _ hDp hD
      have hbD : b ≠ D := fun z => by rw [z, hD4] at nb; cases nb
      have gb := g34.same sb
      have g22b := g3.trans gb
      have hDb := sb _ _ hD4
      have kb := upd_same (H := H4) (a := b) (o := .tup [V.int (0 + (j : Int)), .ref sa, .ref t, .int (ov : Int), .str "none"])
      refine ⟨_, hDb, by rw [Ats.len hws, hel]; exact Nat.lt_of_lt_of_le hj (by decide), go_mut g22b nD hDp, ws ++ [.ref b], es ++ [.tup [.int (j : Int), dSh s, dH ks, .int (ov : Int), .str nNone]], upd_same, ?_, by rw [List.length_append, hel]; rfl, ?_⟩
      · refine las_app (Ats.same hid2_mut _ _ (Ats.same (hid_mono gb.hid) _ _ hws)) (las_cons (la_tup (hid2_mut _ _ (by rw [hid_ne hbD, hid_ne hbp]; exact kb)) ?_) las_nil)
        have hf := hid_frA g22b.hid hDn
        refine las_cons (by rw [Int.zero_add]; exact la_int) (las_cons (At.same hid2_mut _ _ (At.same hf _ _ hs22)) (las_cons (At.same hid2_mut _ _ (At.same hf _ _ hh22)) (las_cons la_int (las_cons (by rw [n_none]; exact la_str (by decide)) las_nil))))
      · intro d hd
        rcases List.mem_append.mp hd with hd | hd
        · exact hes d hd
        · rw [List.mem_singleton.mp hd]
          refine row_fine T ?_ hshC mh (.int (Nat.lt_of_le_of_lt (show _ ≤ 3 by omega) (by decide))) (by omega)
          have : j = 0 ∨ j = 1 ∨ j = 2 ∨ j = 3 := by omega
          rcases this with rfl | rfl | rfl | rfl
          · exact .w hhD
          · exact .r hhD
          · exact .p hshA hhD hshB
          · exact .q hshA hhD hshB (by omega)
    · rintro H3 ⟨g3, ws, es, hD, hws, hel, hes⟩
      walk_at "rd"
      have hel : es.length = 4 := hel
      have h21 := g3.keep _ _ ha21p hk21
      refine ⟨a21, D, vs21, ws, rfl, rfl, h21, hD, few_le (by rw [Ats.len hv21, Ats.len hws, hel]; show 11 ≤ 1000; decide), fun c2 nc2 => ?_⟩
      have sc2 := same_upd (o := .lst (vs21 ++ ws)) nc2
      have hat : Ats K H3 (vs21 ++ ws) (rows11 (dSh s) (dH ks) dbad dns dof ++ es) := las_app (Ats.same (hid_same p _) _ _ (Ats.same g3.hid _ _ hv21)) (Ats.same (hid_same p _) _ _ (Ats.same (hid_same D _) _ _ hws))
      have hrw : ∀ d ∈ rows11 (dSh s) (dH ks) dbad dns dof ++ es, RowOk T d := fun d hd => (List.mem_append.mp hd).elim (hro d) (hes d)
      have hln : (rows11 (dSh s) (dH ks) dbad dns dof ++ es).length ≤ 15 := by rw [List.length_append, hel]; show 11 ≤ 15; decide
      have hk := upd_same (H := H3) (a := c2) (o := .lst (vs21 ++ ws))
      have hat := Ats.same sc2 _ _ hat
      have g13 := (g122.trans g3).same sc2
      generalize rows11 (dSh s) (dH ks) dbad dns dof ++ es = ds at *
      generalize vs21 ++ ws = zs at *
      generalize upd H3 c2 (.lst zs) = H23 at *
      have hnt := neat_rows hln fun d hd => (hrw d hd).size T
      dsimp only [List.set]
      refine ⟨_, rfl, c2, .lst ds, rfl, la_lst hk hat, hnt, ?_⟩
      refine fr_list ?_
      walk_at "rd"
      refine ⟨_, rfl, c2, rfl, ⟨_, SqL.of hk⟩, ForGo.list (xs := zs) (fun j σ H2 => ∃ y9 y11 y12 y13 y14, σ = [some (.ref a), some (.ref p), some (.int (0 + (i : Int))), some (.ref sa), some (.ref t), some vb, some vns, some vof, some (.ref c2), y9, some (.str (shw (.lst ds))), y11, y12, y13, y14] ∧ Same H23 H2)
        ⟨_, _, _, _, _, rfl, Same.refl _⟩ (fun j σ H2 _ h => by obtain ⟨_, _, _, _, _, _, s2⟩ := h; exact SqL.of (s2 _ _ hk)) ?_ ?_⟩
      · rintro j x σ H24 hx ⟨y9, y11, y12, y13, y14, rfl, s24⟩
        walk_at "rd"
        obtain ⟨d, hdj, hxd⟩ := Ats.at hat hx
        obtain ⟨ask, e, hh, r, w, rfl, h5, hw10, hwc, hme, hmh, hsr, hdue⟩ := hrw d (List.mem_of_getElem? hdj)
        unfold At Ats Ats Ats Ats Ats Ats at hxd
        obtain ⟨b, us, rfl, hsq, v0, us0, rfl, h0, v1, us1, rfl, h1, v2, us2, rfl, h2, v3, us3, rfl, h3, v4, us4, rfl, h4, rfl⟩ := hxd
        unfold At at h0 h4
        subst h0
        obtain ⟨rfl, _⟩ := h4
        refine ⟨b, _, rfl, sameT s24 hsq, rfl, _, _, rfl, _, _, rfl, _, _, rfl, _, _, rfl, _, _, rfl, rfl, ?_⟩
        dsimp only [List.set]
        refine ⟨_, rfl, _, rfl, _, rfl, _, rfl, ask, _, _, _, e, hh, r, rfl, At.same s24 _ _ h1, At.same s24 _ _ h2, At.same s24 _ _ h3, ?_⟩
        rcases hdue with ⟨D2, hd⟩ | ⟨hn, hf⟩
        case' inl => refine .inl ⟨D2, _, hd, ?_⟩
        case' inr =>
          refine .inr ⟨hf, ?_⟩
          rw [← hn]
        all_goals
          intro H25 s25
          refine ⟨_, rfl, rfl, _, rfl, ?_⟩
          rw [show (!decide (V.str (tx w) = V.str (tx w))) = false by rw [decide_eq_true rfl]; rfl]
          exact iteF ⟨_, _, _, _, _, rfl, s24.trans s25⟩
      · rintro σ H24 ⟨y9, y11, y12, y13, y14, rfl, s24⟩
        walk_at "rd"
        refine ⟨_, rfl, c2, .lst ds, rfl, At.same s24 _ _ (la_lst hk hat), hnt, ?_⟩
        refine ⟨_, rfl, rfl, _, rfl, ?_⟩
        rw [show (!decide (V.str (shw (.lst ds)) = V.str (shw (.lst ds)))) = false by rw [decide_eq_true rfl]; rfl]
        exact iteF ⟨_, _, _, _, _, _, _, _, _, _, _, _, _, rfl, g13.same s24⟩
  · rintro σ H2 ⟨y2, y3, y4, y5, y6, y7, y8, y9, y10, y11, y12, y13, y14, rfl, g2⟩
    walk_at "rd"
    exact q _

end
theorem bd_press {K : PySem.W.Frag} {f : Addr} {fd : FuncData} (F : FunD K "press" "press" (defArgs s_press) (defBody s_press) (defScope s_press) [] [("times", .int 1)] f fd) : ∃ ds, Vals [V.int 1] ds ∧ Binds K fd ["sheet", "hand", "times"] ds :=
  F.binds0 2 (by decide) rfl fun D doc pm an cdv ct us ks hu hk => match us, ks, hu, hk with | [_, _], [_], _, _ => ⟨_, _, _, _, _, _, rfl, rfl, rfl⟩
theorem kb_press {K : PySem.W.Frag} {f : Addr} {fd : FuncData} (F : FunD K "press" "press" (defArgs s_press) (defBody s_press) (defScope s_press) [] [("times", .int 1)] f fd) : KBn K fd ["sheet", "hand", "times"] 2 ["times"] (fun us ws => us ++ ws) (fun vs zs => vs ++ zs) := by
  obtain ⟨oc, od, dV, kV, doc, pm, an, cdv, ct, osl, rfl, lk, hcd, hD, hK⟩ := F.ex
  rcases hD with ⟨_, rfl⟩ | ⟨e, _⟩
  · exact ⟨fun s us ws _ hu hw => match us, ws, hu, hw with | [_, _], [_], _, _ => .of_eq rfl, fun r1 r2 => r1.append r2⟩
  · exact absurd rfl e
theorem all_mk {l : PySem.W.OpenLaw} {w : World} {K : PySem.W.Frag} {h : Heap} {mg : Str → Option Value} {fa : Addr} (X : K.In h) (G : h.Ns mainGlobals mg) (hfa : mg "law" = some (.ref fa))
    {f0 : Addr} {od0 an0 : Option Addr} {sl0 : Array (Option Value)} {oc0 dc0 pm0 cd0 ct0 : Value} {kV0 : Value}
    {f1 : Addr} {od1 an1 : Option Addr} {sl1 : Array (Option Value)} {oc1 dc1 pm1 cd1 ct1 : Value} {kV1 : Value}
    {f2 : Addr} {od2 an2 : Option Addr} {sl2 : Array (Option Value)} {oc2 dc2 pm2 cd2 ct2 : Value} {kV2 : Value}
    {f3 : Addr} {od3 an3 : Option Addr} {sl3 : Array (Option Value)} {oc3 dc3 pm3 cd3 ct3 : Value} {kV3 : Value}
    {f4 : Addr} {od4 an4 : Option Addr} {sl4 : Array (Option Value)} {oc4 dc4 pm4 cd4 ct4 : Value} {kV4 : Value}
    {f5 : Addr} {od5 an5 : Option Addr} {sl5 : Array (Option Value)} {oc5 dc5 pm5 cd5 ct5 : Value} {kV5 : Value}
    {f6 : Addr} {od6 an6 : Option Addr} {sl6 : Array (Option Value)} {oc6 dc6 pm6 cd6 ct6 : Value} {kV6 : Value}
    {f7 : Addr} {od7 an7 : Option Addr} {sl7 : Array (Option Value)} {oc7 dc7 pm7 cd7 ct7 : Value} {kV7 : Value}
    {f8 : Addr} {od8 an8 : Option Addr} {sl8 : Array (Option Value)} {oc8 dc8 pm8 cd8 ct8 : Value} {kV8 : Value}
    {f9 : Addr} {od9 an9 : Option Addr} {sl9 : Array (Option Value)} {oc9 dc9 pm9 cd9 ct9 : Value} {kV9 : Value}
    {f10 : Addr} {od10 an10 : Option Addr} {sl10 : Array (Option Value)} {oc10 dc10 pm10 cd10 ct10 : Value} {kV10 : Value}
    {f11 : Addr} {od11 an11 : Option Addr} {sl11 : Array (Option Value)} {oc11 dc11 pm11 cd11 ct11 : Value} {kV11 : Value}
    {f12 : Addr} {od12 an12 : Option Addr} {sl12 : Array (Option Value)} {oc12 dc12 pm12 cd12 ct12 : Value} {kV12 : Value}
    {f13 : Addr} {od13 an13 : Option Addr} {sl13 : Array (Option Value)} {oc13 dc13 pm13 cd13 ct13 : Value} {kV13 : Value}
    {f14 : Addr} {od14 an14 : Option Addr} {sl14 : Array (Option Value)} {oc14 dc14 pm14 cd14 ct14 : Value} {kV14 : Value}
    {f15 : Addr} {od15 an15 : Option Addr} {sl15 : Array (Option Value)} {oc15 dc15 pm15 cd15 ct15 : Value} {kV15 : Value}
    {f16 : Addr} {od16 an16 : Option Addr} {sl16 : Array (Option Value)} {oc16 dc16 pm16 cd16 ct16 : Value} {kV16 : Value}
    {f17 : Addr} {od17 an17 : Option Addr} {sl17 : Array (Option Value)} {oc17 dc17 pm17 cd17 ct17 : Value} {D17 : Addr}
    {tk17 : Tok}
    {f18 : Addr} {od18 an18 : Option Addr} {sl18 : Array (Option Value)} {oc18 dc18 pm18 cd18 ct18 : Value} {kV18 : Value}
    {f19 : Addr} {od19 an19 : Option Addr} {sl19 : Array (Option Value)} {oc19 dc19 pm19 cd19 ct19 : Value} {kV19 : Value}
    {f20 : Addr} {od20 an20 : Option Addr} {sl20 : Array (Option Value)} {oc20 dc20 pm20 cd20 ct20 : Value} {kV20 : Value}
    {f21 : Addr} {od21 an21 : Option Addr} {sl21 : Array (Option Value)} {oc21 dc21 pm21 cd21 ct21 : Value} {kV21 : Value}
    {f22 : Addr} {od22 an22 : Option Addr} {sl22 : Array (Option Value)} {oc22 dc22 pm22 cd22 ct22 : Value} {kV22 : Value}
    {f23 : Addr} {od23 an23 : Option Addr} {sl23 : Array (Option Value)} {oc23 dc23 pm23 cd23 ct23 : Value} {kV23 : Value}
    {f24 : Addr} {od24 an24 : Option Addr} {sl24 : Array (Option Value)} {oc24 dc24 pm24 cd24 ct24 : Value} {kV24 : Value}
    {f25 : Addr} {od25 an25 : Option Addr} {sl25 : Array (Option Value)} {oc25 dc25 pm25 cd25 ct25 : Value} {kV25 : Value}
    {f26 : Addr} {od26 an26 : Option Addr} {sl26 : Array (Option Value)} {oc26 dc26 pm26 cd26 ct26 : Value} {kV26 : Value}
    {f27 : Addr} {od27 an27 : Option Addr} {sl27 : Array (Option Value)} {oc27 dc27 pm27 cd27 ct27 : Value} {kV27 : Value}
    {f28 : Addr} {od28 an28 : Option Addr} {sl28 : Array (Option Value)} {oc28 dc28 pm28 cd28 ct28 : Value} {kV28 : Value}
    {f29 : Addr} {od29 an29 : Option Addr} {sl29 : Array (Option Value)} {oc29 dc29 pm29 cd29 ct29 : Value} {kV29 : Value}
    {f30 : Addr} {od30 an30 : Option Addr} {sl30 : Array (Option Value)} {oc30 dc30 pm30 cd30 ct30 : Value} {kV30 : Value}
    {X_NoHand : Addr}
    {X_NoSheet : Addr}
    {X_NoTimes : Addr}
    {X_NoText : Addr}
    {X_NoPlace : Addr}
    {X_NoNumber : Addr}
    {X_NoRings : Addr}
    {X_Full : Addr}
    {X_NoLengths : Addr}
    {X_NoName : Addr}
    {X_NoRow : Addr}
    {X_NoSeen : Addr}
    {X_Nothing : Addr}
    {X_NoWriting : Addr}
    {X_TooMany : Addr}
    {X_KeysError : Addr}
    {X_NoLetter : Addr}
    {X_NoStand : Addr}
    {X_NoPlay : Addr}
    {t_ALPHABET : Tok}
    {t_HEAVIEST : Tok}
    {t_LONGEST_WORD : Tok}
    {t_MOST_TIMES : Tok}
    {d_NUMBERS : Addr} {es_NUMBERS : Array DictEntry} {n_NUMBERS : Nat}
    {d_SIDES : Addr} {es_SIDES : Array DictEntry} {n_SIDES : Nat}
    (a0 : PySem.W.nsIn K mainGlobals "is_row" = some (some (.ref f0))) (l0 : K.lookup f0 = some ⟨oc0, od0, .func (PySem.W.fnOf "is_row" "is_row" (defArgs s_is_row) (defBody s_is_row) (defScope s_is_row) .none kV0 dc0 pm0 an0 cd0 ct0), sl0⟩) (c0 : PySem.W.codeIn K cd0 "is_row" = true) (k0 : PySem.W.keepIn K (.ref f0) = true)
    (a1 : PySem.W.nsIn K mainGlobals "is_whole" = some (some (.ref f1))) (l1 : K.lookup f1 = some ⟨oc1, od1, .func (PySem.W.fnOf "is_whole" "is_whole" (defArgs s_is_whole) (defBody s_is_whole) (defScope s_is_whole) .none kV1 dc1 pm1 an1 cd1 ct1), sl1⟩) (c1 : PySem.W.codeIn K cd1 "is_whole" = true) (k1 : PySem.W.keepIn K (.ref f1) = true)
    (a2 : PySem.W.nsIn K mainGlobals "is_within" = some (some (.ref f2))) (l2 : K.lookup f2 = some ⟨oc2, od2, .func (PySem.W.fnOf "is_within" "is_within" (defArgs s_is_within) (defBody s_is_within) (defScope s_is_within) .none kV2 dc2 pm2 an2 cd2 ct2), sl2⟩) (c2 : PySem.W.codeIn K cd2 "is_within" = true) (k2 : PySem.W.keepIn K (.ref f2) = true)
    (a3 : PySem.W.nsIn K mainGlobals "is_plain" = some (some (.ref f3))) (l3 : K.lookup f3 = some ⟨oc3, od3, .func (PySem.W.fnOf "is_plain" "is_plain" (defArgs s_is_plain) (defBody s_is_plain) (defScope s_is_plain) .none kV3 dc3 pm3 an3 cd3 ct3), sl3⟩) (c3 : PySem.W.codeIn K cd3 "is_plain" = true) (k3 : PySem.W.keepIn K (.ref f3) = true)
    (a4 : PySem.W.nsIn K mainGlobals "is_clip" = some (some (.ref f4))) (l4 : K.lookup f4 = some ⟨oc4, od4, .func (PySem.W.fnOf "is_clip" "is_clip" (defArgs s_is_clip) (defBody s_is_clip) (defScope s_is_clip) .none kV4 dc4 pm4 an4 cd4 ct4), sl4⟩) (c4 : PySem.W.codeIn K cd4 "is_clip" = true) (k4 : PySem.W.keepIn K (.ref f4) = true)
    (a5 : PySem.W.nsIn K mainGlobals "is_word" = some (some (.ref f5))) (l5 : K.lookup f5 = some ⟨oc5, od5, .func (PySem.W.fnOf "is_word" "is_word" (defArgs s_is_word) (defBody s_is_word) (defScope s_is_word) .none kV5 dc5 pm5 an5 cd5 ct5), sl5⟩) (c5 : PySem.W.codeIn K cd5 "is_word" = true) (k5 : PySem.W.keepIn K (.ref f5) = true)
    (a6 : PySem.W.nsIn K mainGlobals "is_key" = some (some (.ref f6))) (l6 : K.lookup f6 = some ⟨oc6, od6, .func (PySem.W.fnOf "is_key" "is_key" (defArgs s_is_key) (defBody s_is_key) (defScope s_is_key) .none kV6 dc6 pm6 an6 cd6 ct6), sl6⟩) (c6 : PySem.W.codeIn K cd6 "is_key" = true) (k6 : PySem.W.keepIn K (.ref f6) = true)
    (a7 : PySem.W.nsIn K mainGlobals "key_weight" = some (some (.ref f7))) (l7 : K.lookup f7 = some ⟨oc7, od7, .func (PySem.W.fnOf "key_weight" "key_weight" (defArgs s_key_weight) (defBody s_key_weight) (defScope s_key_weight) .none kV7 dc7 pm7 an7 cd7 ct7), sl7⟩) (c7 : PySem.W.codeIn K cd7 "key_weight" = true) (k7 : PySem.W.keepIn K (.ref f7) = true)
    (a8 : PySem.W.nsIn K mainGlobals "weigh" = some (some (.ref f8))) (l8 : K.lookup f8 = some ⟨oc8, od8, .func (PySem.W.fnOf "weigh" "weigh" (defArgs s_weigh) (defBody s_weigh) (defScope s_weigh) .none kV8 dc8 pm8 an8 cd8 ct8), sl8⟩) (c8 : PySem.W.codeIn K cd8 "weigh" = true) (k8 : PySem.W.keepIn K (.ref f8) = true)
    (a9 : PySem.W.nsIn K mainGlobals "is_hand" = some (some (.ref f9))) (l9 : K.lookup f9 = some ⟨oc9, od9, .func (PySem.W.fnOf "is_hand" "is_hand" (defArgs s_is_hand) (defBody s_is_hand) (defScope s_is_hand) .none kV9 dc9 pm9 an9 cd9 ct9), sl9⟩) (c9 : PySem.W.codeIn K cd9 "is_hand" = true) (k9 : PySem.W.keepIn K (.ref f9) = true)
    (a10 : PySem.W.nsIn K mainGlobals "check_hand" = some (some (.ref f10))) (l10 : K.lookup f10 = some ⟨oc10, od10, .func (PySem.W.fnOf "check_hand" "check_hand" (defArgs s_check_hand) (defBody s_check_hand) (defScope s_check_hand) .none kV10 dc10 pm10 an10 cd10 ct10), sl10⟩) (c10 : PySem.W.codeIn K cd10 "check_hand" = true) (k10 : PySem.W.keepIn K (.ref f10) = true)
    (a11 : PySem.W.nsIn K mainGlobals "is_sheet" = some (some (.ref f11))) (l11 : K.lookup f11 = some ⟨oc11, od11, .func (PySem.W.fnOf "is_sheet" "is_sheet" (defArgs s_is_sheet) (defBody s_is_sheet) (defScope s_is_sheet) .none kV11 dc11 pm11 an11 cd11 ct11), sl11⟩) (c11 : PySem.W.codeIn K cd11 "is_sheet" = true) (k11 : PySem.W.keepIn K (.ref f11) = true)
    (a12 : PySem.W.nsIn K mainGlobals "check_sheet" = some (some (.ref f12))) (l12 : K.lookup f12 = some ⟨oc12, od12, .func (PySem.W.fnOf "check_sheet" "check_sheet" (defArgs s_check_sheet) (defBody s_check_sheet) (defScope s_check_sheet) .none kV12 dc12 pm12 an12 cd12 ct12), sl12⟩) (c12 : PySem.W.codeIn K cd12 "check_sheet" = true) (k12 : PySem.W.keepIn K (.ref f12) = true)
    (a13 : PySem.W.nsIn K mainGlobals "nearest" = some (some (.ref f13))) (l13 : K.lookup f13 = some ⟨oc13, od13, .func (PySem.W.fnOf "nearest" "nearest" (defArgs s_nearest) (defBody s_nearest) (defScope s_nearest) .none kV13 dc13 pm13 an13 cd13 ct13), sl13⟩) (c13 : PySem.W.codeIn K cd13 "nearest" = true) (k13 : PySem.W.keepIn K (.ref f13) = true)
    (a14 : PySem.W.nsIn K mainGlobals "take" = some (some (.ref f14))) (l14 : K.lookup f14 = some ⟨oc14, od14, .func (PySem.W.fnOf "take" "take" (defArgs s_take) (defBody s_take) (defScope s_take) .none kV14 dc14 pm14 an14 cd14 ct14), sl14⟩) (c14 : PySem.W.codeIn K cd14 "take" = true) (k14 : PySem.W.keepIn K (.ref f14) = true)
    (a15 : PySem.W.nsIn K mainGlobals "do_key" = some (some (.ref f15))) (l15 : K.lookup f15 = some ⟨oc15, od15, .func (PySem.W.fnOf "do_key" "do_key" (defArgs s_do_key) (defBody s_do_key) (defScope s_do_key) .none kV15 dc15 pm15 an15 cd15 ct15), sl15⟩) (c15 : PySem.W.codeIn K cd15 "do_key" = true) (k15 : PySem.W.keepIn K (.ref f15) = true)
    (a16 : PySem.W.nsIn K mainGlobals "weight" = some (some (.ref f16))) (l16 : K.lookup f16 = some ⟨oc16, od16, .func (PySem.W.fnOf "weight" "weight" (defArgs s_weight) (defBody s_weight) (defScope s_weight) .none kV16 dc16 pm16 an16 cd16 ct16), sl16⟩) (c16 : PySem.W.codeIn K cd16 "weight" = true) (k16 : PySem.W.keepIn K (.ref f16) = true)
    (a17 : PySem.W.nsIn K mainGlobals "press" = some (some (.ref f17))) (l17 : K.lookup f17 = some ⟨oc17, od17, .func (PySem.W.fnOf "press" "press" (defArgs s_press) (defBody s_press) (defScope s_press) .none (.ref D17) dc17 pm17 an17 cd17 ct17), sl17⟩) (c17 : PySem.W.codeIn K cd17 "press" = true) (k17 : PySem.W.keepIn K (.ref f17) = true)
    (e17 : PySem.W.nsIn K D17 "times" = some (some (.int 1 tk17)))
    (a18 : PySem.W.nsIn K mainGlobals "go" = some (some (.ref f18))) (l18 : K.lookup f18 = some ⟨oc18, od18, .func (PySem.W.fnOf "go" "go" (defArgs s_go) (defBody s_go) (defScope s_go) .none kV18 dc18 pm18 an18 cd18 ct18), sl18⟩) (c18 : PySem.W.codeIn K cd18 "go" = true) (k18 : PySem.W.keepIn K (.ref f18) = true)
    (a19 : PySem.W.nsIn K mainGlobals "needed" = some (some (.ref f19))) (l19 : K.lookup f19 = some ⟨oc19, od19, .func (PySem.W.fnOf "needed" "needed" (defArgs s_needed) (defBody s_needed) (defScope s_needed) .none kV19 dc19 pm19 an19 cd19 ct19), sl19⟩) (c19 : PySem.W.codeIn K cd19 "needed" = true) (k19 : PySem.W.keepIn K (.ref f19) = true)
    (a20 : PySem.W.nsIn K mainGlobals "reach" = some (some (.ref f20))) (l20 : K.lookup f20 = some ⟨oc20, od20, .func (PySem.W.fnOf "reach" "reach" (defArgs s_reach) (defBody s_reach) (defScope s_reach) .none kV20 dc20 pm20 an20 cd20 ct20), sl20⟩) (c20 : PySem.W.codeIn K cd20 "reach" = true) (k20 : PySem.W.keepIn K (.ref f20) = true)
    (a21 : PySem.W.nsIn K mainGlobals "reaches" = some (some (.ref f21))) (l21 : K.lookup f21 = some ⟨oc21, od21, .func (PySem.W.fnOf "reaches" "reaches" (defArgs s_reaches) (defBody s_reaches) (defScope s_reaches) .none kV21 dc21 pm21 an21 cd21 ct21), sl21⟩) (c21 : PySem.W.codeIn K cd21 "reaches" = true) (k21 : PySem.W.keepIn K (.ref f21) = true)
    (a22 : PySem.W.nsIn K mainGlobals "_law_spring" = some (some (.ref f22))) (l22 : K.lookup f22 = some ⟨oc22, od22, .func (PySem.W.fnOf "_law_spring" "_law_spring" (defArgs s__law_spring) (defBody s__law_spring) (defScope s__law_spring) .none kV22 dc22 pm22 an22 cd22 ct22), sl22⟩) (c22 : PySem.W.codeIn K cd22 "_law_spring" = true) (k22 : PySem.W.keepIn K (.ref f22) = true)
    (a23 : PySem.W.nsIn K mainGlobals "_law_draw" = some (some (.ref f23))) (l23 : K.lookup f23 = some ⟨oc23, od23, .func (PySem.W.fnOf "_law_draw" "_law_draw" (defArgs s__law_draw) (defBody s__law_draw) (defScope s__law_draw) .none kV23 dc23 pm23 an23 cd23 ct23), sl23⟩) (c23 : PySem.W.codeIn K cd23 "_law_draw" = true) (k23 : PySem.W.keepIn K (.ref f23) = true)
    (a24 : PySem.W.nsIn K mainGlobals "_law_word" = some (some (.ref f24))) (l24 : K.lookup f24 = some ⟨oc24, od24, .func (PySem.W.fnOf "_law_word" "_law_word" (defArgs s__law_word) (defBody s__law_word) (defScope s__law_word) .none kV24 dc24 pm24 an24 cd24 ct24), sl24⟩) (c24 : PySem.W.codeIn K cd24 "_law_word" = true) (k24 : PySem.W.keepIn K (.ref f24) = true)
    (a25 : PySem.W.nsIn K mainGlobals "_law_hand" = some (some (.ref f25))) (l25 : K.lookup f25 = some ⟨oc25, od25, .func (PySem.W.fnOf "_law_hand" "_law_hand" (defArgs s__law_hand) (defBody s__law_hand) (defScope s__law_hand) .none kV25 dc25 pm25 an25 cd25 ct25), sl25⟩) (c25 : PySem.W.codeIn K cd25 "_law_hand" = true) (k25 : PySem.W.keepIn K (.ref f25) = true)
    (a26 : PySem.W.nsIn K mainGlobals "_law_sheet" = some (some (.ref f26))) (l26 : K.lookup f26 = some ⟨oc26, od26, .func (PySem.W.fnOf "_law_sheet" "_law_sheet" (defArgs s__law_sheet) (defBody s__law_sheet) (defScope s__law_sheet) .none kV26 dc26 pm26 an26 cd26 ct26), sl26⟩) (c26 : PySem.W.codeIn K cd26 "_law_sheet" = true) (k26 : PySem.W.keepIn K (.ref f26) = true)
    (a27 : PySem.W.nsIn K mainGlobals "_law_no_hand" = some (some (.ref f27))) (l27 : K.lookup f27 = some ⟨oc27, od27, .func (PySem.W.fnOf "_law_no_hand" "_law_no_hand" (defArgs s__law_no_hand) (defBody s__law_no_hand) (defScope s__law_no_hand) .none kV27 dc27 pm27 an27 cd27 ct27), sl27⟩) (c27 : PySem.W.codeIn K cd27 "_law_no_hand" = true) (k27 : PySem.W.keepIn K (.ref f27) = true)
    (a28 : PySem.W.nsIn K mainGlobals "_law_which" = some (some (.ref f28))) (l28 : K.lookup f28 = some ⟨oc28, od28, .func (PySem.W.fnOf "_law_which" "_law_which" (defArgs s__law_which) (defBody s__law_which) (defScope s__law_which) .none kV28 dc28 pm28 an28 cd28 ct28), sl28⟩) (c28 : PySem.W.codeIn K cd28 "_law_which" = true) (k28 : PySem.W.keepIn K (.ref f28) = true)
    (a29 : PySem.W.nsIn K mainGlobals "_law_asked" = some (some (.ref f29))) (l29 : K.lookup f29 = some ⟨oc29, od29, .func (PySem.W.fnOf "_law_asked" "_law_asked" (defArgs s__law_asked) (defBody s__law_asked) (defScope s__law_asked) .none kV29 dc29 pm29 an29 cd29 ct29), sl29⟩) (c29 : PySem.W.codeIn K cd29 "_law_asked" = true) (k29 : PySem.W.keepIn K (.ref f29) = true)
    (a30 : PySem.W.nsIn K mainGlobals "law" = some (some (.ref f30))) (l30 : K.lookup f30 = some ⟨oc30, od30, .func (PySem.W.fnOf "law" "law" (defArgs s_law) (defBody s_law) (defScope s_law) .none kV30 dc30 pm30 an30 cd30 ct30), sl30⟩) (c30 : PySem.W.codeIn K cd30 "law" = true) (k30 : PySem.W.keepIn K (.ref f30) = true)
    (g_NoHand : PySem.W.nsIn K mainGlobals "NoHand" = some (some (.ref X_NoHand))) (k_NoHand : PySem.W.keepIn K (.ref X_NoHand) = true) (h_NoHand : PySem.W.hasDictIn K X_NoHand = true) (t_NoHand : PySem.W.typeIn K (.ref X_NoHand) = some (.type "type")) (u_NoHand : PySem.W.subIn K (.ref X_NoHand) (.type "BaseException") = some true) (f_NoHand : PySem.W.subIn K (.ref X_NoHand) (.ref X_NoHand) = some true)
    (g_NoSheet : PySem.W.nsIn K mainGlobals "NoSheet" = some (some (.ref X_NoSheet))) (k_NoSheet : PySem.W.keepIn K (.ref X_NoSheet) = true) (h_NoSheet : PySem.W.hasDictIn K X_NoSheet = true) (t_NoSheet : PySem.W.typeIn K (.ref X_NoSheet) = some (.type "type")) (u_NoSheet : PySem.W.subIn K (.ref X_NoSheet) (.type "BaseException") = some true) (f_NoSheet : PySem.W.subIn K (.ref X_NoSheet) (.ref X_NoSheet) = some true)
    (g_NoTimes : PySem.W.nsIn K mainGlobals "NoTimes" = some (some (.ref X_NoTimes))) (k_NoTimes : PySem.W.keepIn K (.ref X_NoTimes) = true) (h_NoTimes : PySem.W.hasDictIn K X_NoTimes = true) (t_NoTimes : PySem.W.typeIn K (.ref X_NoTimes) = some (.type "type")) (u_NoTimes : PySem.W.subIn K (.ref X_NoTimes) (.type "BaseException") = some true) (f_NoTimes : PySem.W.subIn K (.ref X_NoTimes) (.ref X_NoTimes) = some true)
    (g_NoText : PySem.W.nsIn K mainGlobals "NoText" = some (some (.ref X_NoText))) (k_NoText : PySem.W.keepIn K (.ref X_NoText) = true) (h_NoText : PySem.W.hasDictIn K X_NoText = true) (t_NoText : PySem.W.typeIn K (.ref X_NoText) = some (.type "type")) (u_NoText : PySem.W.subIn K (.ref X_NoText) (.type "BaseException") = some true) (f_NoText : PySem.W.subIn K (.ref X_NoText) (.ref X_NoText) = some true)
    (g_NoPlace : PySem.W.nsIn K mainGlobals "NoPlace" = some (some (.ref X_NoPlace))) (k_NoPlace : PySem.W.keepIn K (.ref X_NoPlace) = true) (h_NoPlace : PySem.W.hasDictIn K X_NoPlace = true) (t_NoPlace : PySem.W.typeIn K (.ref X_NoPlace) = some (.type "type")) (u_NoPlace : PySem.W.subIn K (.ref X_NoPlace) (.type "BaseException") = some true) (f_NoPlace : PySem.W.subIn K (.ref X_NoPlace) (.ref X_NoPlace) = some true)
    (g_NoNumber : PySem.W.nsIn K mainGlobals "NoNumber" = some (some (.ref X_NoNumber))) (k_NoNumber : PySem.W.keepIn K (.ref X_NoNumber) = true) (h_NoNumber : PySem.W.hasDictIn K X_NoNumber = true) (t_NoNumber : PySem.W.typeIn K (.ref X_NoNumber) = some (.type "type")) (u_NoNumber : PySem.W.subIn K (.ref X_NoNumber) (.type "BaseException") = some true) (f_NoNumber : PySem.W.subIn K (.ref X_NoNumber) (.ref X_NoNumber) = some true)
    (g_NoRings : PySem.W.nsIn K mainGlobals "NoRings" = some (some (.ref X_NoRings))) (k_NoRings : PySem.W.keepIn K (.ref X_NoRings) = true) (h_NoRings : PySem.W.hasDictIn K X_NoRings = true) (t_NoRings : PySem.W.typeIn K (.ref X_NoRings) = some (.type "type")) (u_NoRings : PySem.W.subIn K (.ref X_NoRings) (.type "BaseException") = some true) (f_NoRings : PySem.W.subIn K (.ref X_NoRings) (.ref X_NoRings) = some true)
    (g_Full : PySem.W.nsIn K mainGlobals "Full" = some (some (.ref X_Full))) (k_Full : PySem.W.keepIn K (.ref X_Full) = true) (h_Full : PySem.W.hasDictIn K X_Full = true) (t_Full : PySem.W.typeIn K (.ref X_Full) = some (.type "type")) (u_Full : PySem.W.subIn K (.ref X_Full) (.type "BaseException") = some true) (f_Full : PySem.W.subIn K (.ref X_Full) (.ref X_Full) = some true)
    (g_NoLengths : PySem.W.nsIn K mainGlobals "NoLengths" = some (some (.ref X_NoLengths))) (k_NoLengths : PySem.W.keepIn K (.ref X_NoLengths) = true) (h_NoLengths : PySem.W.hasDictIn K X_NoLengths = true) (t_NoLengths : PySem.W.typeIn K (.ref X_NoLengths) = some (.type "type")) (u_NoLengths : PySem.W.subIn K (.ref X_NoLengths) (.type "BaseException") = some true) (f_NoLengths : PySem.W.subIn K (.ref X_NoLengths) (.ref X_NoLengths) = some true)
    (g_NoName : PySem.W.nsIn K mainGlobals "NoName" = some (some (.ref X_NoName))) (k_NoName : PySem.W.keepIn K (.ref X_NoName) = true) (h_NoName : PySem.W.hasDictIn K X_NoName = true) (t_NoName : PySem.W.typeIn K (.ref X_NoName) = some (.type "type")) (u_NoName : PySem.W.subIn K (.ref X_NoName) (.type "BaseException") = some true) (f_NoName : PySem.W.subIn K (.ref X_NoName) (.ref X_NoName) = some true)
    (g_NoRow : PySem.W.nsIn K mainGlobals "NoRow" = some (some (.ref X_NoRow))) (k_NoRow : PySem.W.keepIn K (.ref X_NoRow) = true) (h_NoRow : PySem.W.hasDictIn K X_NoRow = true) (t_NoRow : PySem.W.typeIn K (.ref X_NoRow) = some (.type "type")) (u_NoRow : PySem.W.subIn K (.ref X_NoRow) (.type "BaseException") = some true) (f_NoRow : PySem.W.subIn K (.ref X_NoRow) (.ref X_NoRow) = some true)
    (g_NoSeen : PySem.W.nsIn K mainGlobals "NoSeen" = some (some (.ref X_NoSeen))) (k_NoSeen : PySem.W.keepIn K (.ref X_NoSeen) = true) (h_NoSeen : PySem.W.hasDictIn K X_NoSeen = true) (t_NoSeen : PySem.W.typeIn K (.ref X_NoSeen) = some (.type "type")) (u_NoSeen : PySem.W.subIn K (.ref X_NoSeen) (.type "BaseException") = some true) (f_NoSeen : PySem.W.subIn K (.ref X_NoSeen) (.ref X_NoSeen) = some true)
    (g_Nothing : PySem.W.nsIn K mainGlobals "Nothing" = some (some (.ref X_Nothing))) (k_Nothing : PySem.W.keepIn K (.ref X_Nothing) = true) (h_Nothing : PySem.W.hasDictIn K X_Nothing = true) (t_Nothing : PySem.W.typeIn K (.ref X_Nothing) = some (.type "type")) (u_Nothing : PySem.W.subIn K (.ref X_Nothing) (.type "BaseException") = some true) (f_Nothing : PySem.W.subIn K (.ref X_Nothing) (.ref X_Nothing) = some true)
    (g_NoWriting : PySem.W.nsIn K mainGlobals "NoWriting" = some (some (.ref X_NoWriting))) (k_NoWriting : PySem.W.keepIn K (.ref X_NoWriting) = true) (h_NoWriting : PySem.W.hasDictIn K X_NoWriting = true) (t_NoWriting : PySem.W.typeIn K (.ref X_NoWriting) = some (.type "type")) (u_NoWriting : PySem.W.subIn K (.ref X_NoWriting) (.type "BaseException") = some true) (f_NoWriting : PySem.W.subIn K (.ref X_NoWriting) (.ref X_NoWriting) = some true)
    (g_TooMany : PySem.W.nsIn K mainGlobals "TooMany" = some (some (.ref X_TooMany))) (k_TooMany : PySem.W.keepIn K (.ref X_TooMany) = true) (h_TooMany : PySem.W.hasDictIn K X_TooMany = true) (t_TooMany : PySem.W.typeIn K (.ref X_TooMany) = some (.type "type")) (u_TooMany : PySem.W.subIn K (.ref X_TooMany) (.type "BaseException") = some true) (f_TooMany : PySem.W.subIn K (.ref X_TooMany) (.ref X_TooMany) = some true)
    (g_KeysError : PySem.W.nsIn K mainGlobals "KeysError" = some (some (.ref X_KeysError))) (k_KeysError : PySem.W.keepIn K (.ref X_KeysError) = true) (h_KeysError : PySem.W.hasDictIn K X_KeysError = true) (t_KeysError : PySem.W.typeIn K (.ref X_KeysError) = some (.type "type")) (u_KeysError : PySem.W.subIn K (.ref X_KeysError) (.type "BaseException") = some true) (f_KeysError : PySem.W.subIn K (.ref X_KeysError) (.ref X_KeysError) = some true)
    (g_NoLetter : PySem.W.nsIn K mainGlobals "NoLetter" = some (some (.ref X_NoLetter))) (k_NoLetter : PySem.W.keepIn K (.ref X_NoLetter) = true) (h_NoLetter : PySem.W.hasDictIn K X_NoLetter = true) (t_NoLetter : PySem.W.typeIn K (.ref X_NoLetter) = some (.type "type")) (u_NoLetter : PySem.W.subIn K (.ref X_NoLetter) (.type "BaseException") = some true) (f_NoLetter : PySem.W.subIn K (.ref X_NoLetter) (.ref X_NoLetter) = some true)
    (g_NoStand : PySem.W.nsIn K mainGlobals "NoStand" = some (some (.ref X_NoStand))) (k_NoStand : PySem.W.keepIn K (.ref X_NoStand) = true) (h_NoStand : PySem.W.hasDictIn K X_NoStand = true) (t_NoStand : PySem.W.typeIn K (.ref X_NoStand) = some (.type "type")) (u_NoStand : PySem.W.subIn K (.ref X_NoStand) (.type "BaseException") = some true) (f_NoStand : PySem.W.subIn K (.ref X_NoStand) (.ref X_NoStand) = some true)
    (g_NoPlay : PySem.W.nsIn K mainGlobals "NoPlay" = some (some (.ref X_NoPlay))) (k_NoPlay : PySem.W.keepIn K (.ref X_NoPlay) = true) (h_NoPlay : PySem.W.hasDictIn K X_NoPlay = true) (t_NoPlay : PySem.W.typeIn K (.ref X_NoPlay) = some (.type "type")) (u_NoPlay : PySem.W.subIn K (.ref X_NoPlay) (.type "BaseException") = some true) (f_NoPlay : PySem.W.subIn K (.ref X_NoPlay) (.ref X_NoPlay) = some true)
    (nG : PySem.W.specialIn K (.builtin "object.__class__") "__get__" = some (some (.builtin "getset_descriptor.__get__"))) (nT : PySem.W.takesIn K (.builtin "object.__class__") = some true)
    (q_NoHand : PySem.W.excIn K X_NoHand [.type "ValueError", .type "Exception", .type "BaseException", .type "object"] "ValueError.__new__" = true) (o_NoHand : PySem.W.findIn K (.ref X_NoHand) "__getattribute__" = some (some (.builtin "BaseException.__getattribute__"))) (p_NoHand : PySem.W.findIn K (.ref X_NoHand) "__getattr__" = some none) (j_NoHand : PySem.W.findIn K (.ref X_NoHand) "__class__" = some (some (.builtin "object.__class__"))) (m_NoHand : PySem.W.mroIn K X_NoHand (.type "object") = some true) (w_NoHand : PySem.W.subIn K (.ref X_NoHand) (.type "ValueError") = some true)
    (s_NoHand_NoSheet : PySem.W.subIn K (.ref X_NoHand) (.ref X_NoSheet) = some false)
    (s_NoHand_NoTimes : PySem.W.subIn K (.ref X_NoHand) (.ref X_NoTimes) = some false)
    (s_NoHand_NoText : PySem.W.subIn K (.ref X_NoHand) (.ref X_NoText) = some false)
    (s_NoHand_NoPlace : PySem.W.subIn K (.ref X_NoHand) (.ref X_NoPlace) = some false)
    (s_NoHand_NoNumber : PySem.W.subIn K (.ref X_NoHand) (.ref X_NoNumber) = some false)
    (s_NoHand_NoRings : PySem.W.subIn K (.ref X_NoHand) (.ref X_NoRings) = some false)
    (s_NoHand_Full : PySem.W.subIn K (.ref X_NoHand) (.ref X_Full) = some false)
    (s_NoHand_NoLengths : PySem.W.subIn K (.ref X_NoHand) (.ref X_NoLengths) = some false)
    (s_NoHand_NoName : PySem.W.subIn K (.ref X_NoHand) (.ref X_NoName) = some false)
    (s_NoHand_NoRow : PySem.W.subIn K (.ref X_NoHand) (.ref X_NoRow) = some false)
    (s_NoHand_NoSeen : PySem.W.subIn K (.ref X_NoHand) (.ref X_NoSeen) = some false)
    (s_NoHand_Nothing : PySem.W.subIn K (.ref X_NoHand) (.ref X_Nothing) = some false)
    (s_NoHand_NoWriting : PySem.W.subIn K (.ref X_NoHand) (.ref X_NoWriting) = some false)
    (s_NoHand_TooMany : PySem.W.subIn K (.ref X_NoHand) (.ref X_TooMany) = some false)
    (s_NoHand_KeysError : PySem.W.subIn K (.ref X_NoHand) (.ref X_KeysError) = some true)
    (s_NoHand_NoLetter : PySem.W.subIn K (.ref X_NoHand) (.ref X_NoLetter) = some false)
    (s_NoHand_NoStand : PySem.W.subIn K (.ref X_NoHand) (.ref X_NoStand) = some false)
    (s_NoHand_NoPlay : PySem.W.subIn K (.ref X_NoHand) (.ref X_NoPlay) = some false)
    (q_NoSheet : PySem.W.excIn K X_NoSheet [.type "ValueError", .type "Exception", .type "BaseException", .type "object"] "ValueError.__new__" = true) (o_NoSheet : PySem.W.findIn K (.ref X_NoSheet) "__getattribute__" = some (some (.builtin "BaseException.__getattribute__"))) (p_NoSheet : PySem.W.findIn K (.ref X_NoSheet) "__getattr__" = some none) (j_NoSheet : PySem.W.findIn K (.ref X_NoSheet) "__class__" = some (some (.builtin "object.__class__"))) (m_NoSheet : PySem.W.mroIn K X_NoSheet (.type "object") = some true) (w_NoSheet : PySem.W.subIn K (.ref X_NoSheet) (.type "ValueError") = some true)
    (s_NoSheet_NoHand : PySem.W.subIn K (.ref X_NoSheet) (.ref X_NoHand) = some false)
    (s_NoSheet_NoTimes : PySem.W.subIn K (.ref X_NoSheet) (.ref X_NoTimes) = some false)
    (s_NoSheet_NoText : PySem.W.subIn K (.ref X_NoSheet) (.ref X_NoText) = some false)
    (s_NoSheet_NoPlace : PySem.W.subIn K (.ref X_NoSheet) (.ref X_NoPlace) = some false)
    (s_NoSheet_NoNumber : PySem.W.subIn K (.ref X_NoSheet) (.ref X_NoNumber) = some false)
    (s_NoSheet_NoRings : PySem.W.subIn K (.ref X_NoSheet) (.ref X_NoRings) = some false)
    (s_NoSheet_Full : PySem.W.subIn K (.ref X_NoSheet) (.ref X_Full) = some false)
    (s_NoSheet_NoLengths : PySem.W.subIn K (.ref X_NoSheet) (.ref X_NoLengths) = some false)
    (s_NoSheet_NoName : PySem.W.subIn K (.ref X_NoSheet) (.ref X_NoName) = some false)
    (s_NoSheet_NoRow : PySem.W.subIn K (.ref X_NoSheet) (.ref X_NoRow) = some false)
    (s_NoSheet_NoSeen : PySem.W.subIn K (.ref X_NoSheet) (.ref X_NoSeen) = some false)
    (s_NoSheet_Nothing : PySem.W.subIn K (.ref X_NoSheet) (.ref X_Nothing) = some false)
    (s_NoSheet_NoWriting : PySem.W.subIn K (.ref X_NoSheet) (.ref X_NoWriting) = some false)
    (s_NoSheet_TooMany : PySem.W.subIn K (.ref X_NoSheet) (.ref X_TooMany) = some false)
    (s_NoSheet_KeysError : PySem.W.subIn K (.ref X_NoSheet) (.ref X_KeysError) = some true)
    (s_NoSheet_NoLetter : PySem.W.subIn K (.ref X_NoSheet) (.ref X_NoLetter) = some false)
    (s_NoSheet_NoStand : PySem.W.subIn K (.ref X_NoSheet) (.ref X_NoStand) = some false)
    (s_NoSheet_NoPlay : PySem.W.subIn K (.ref X_NoSheet) (.ref X_NoPlay) = some false)
    (q_NoTimes : PySem.W.excIn K X_NoTimes [.type "ValueError", .type "Exception", .type "BaseException", .type "object"] "ValueError.__new__" = true) (o_NoTimes : PySem.W.findIn K (.ref X_NoTimes) "__getattribute__" = some (some (.builtin "BaseException.__getattribute__"))) (p_NoTimes : PySem.W.findIn K (.ref X_NoTimes) "__getattr__" = some none) (j_NoTimes : PySem.W.findIn K (.ref X_NoTimes) "__class__" = some (some (.builtin "object.__class__"))) (m_NoTimes : PySem.W.mroIn K X_NoTimes (.type "object") = some true) (w_NoTimes : PySem.W.subIn K (.ref X_NoTimes) (.type "ValueError") = some true)
    (s_NoTimes_NoHand : PySem.W.subIn K (.ref X_NoTimes) (.ref X_NoHand) = some false)
    (s_NoTimes_NoSheet : PySem.W.subIn K (.ref X_NoTimes) (.ref X_NoSheet) = some false)
    (s_NoTimes_NoText : PySem.W.subIn K (.ref X_NoTimes) (.ref X_NoText) = some false)
    (s_NoTimes_NoPlace : PySem.W.subIn K (.ref X_NoTimes) (.ref X_NoPlace) = some false)
    (s_NoTimes_NoNumber : PySem.W.subIn K (.ref X_NoTimes) (.ref X_NoNumber) = some false)
    (s_NoTimes_NoRings : PySem.W.subIn K (.ref X_NoTimes) (.ref X_NoRings) = some false)
    (s_NoTimes_Full : PySem.W.subIn K (.ref X_NoTimes) (.ref X_Full) = some false)
    (s_NoTimes_NoLengths : PySem.W.subIn K (.ref X_NoTimes) (.ref X_NoLengths) = some false)
    (s_NoTimes_NoName : PySem.W.subIn K (.ref X_NoTimes) (.ref X_NoName) = some false)
    (s_NoTimes_NoRow : PySem.W.subIn K (.ref X_NoTimes) (.ref X_NoRow) = some false)
    (s_NoTimes_NoSeen : PySem.W.subIn K (.ref X_NoTimes) (.ref X_NoSeen) = some false)
    (s_NoTimes_Nothing : PySem.W.subIn K (.ref X_NoTimes) (.ref X_Nothing) = some false)
    (s_NoTimes_NoWriting : PySem.W.subIn K (.ref X_NoTimes) (.ref X_NoWriting) = some false)
    (s_NoTimes_TooMany : PySem.W.subIn K (.ref X_NoTimes) (.ref X_TooMany) = some false)
    (s_NoTimes_KeysError : PySem.W.subIn K (.ref X_NoTimes) (.ref X_KeysError) = some true)
    (s_NoTimes_NoLetter : PySem.W.subIn K (.ref X_NoTimes) (.ref X_NoLetter) = some false)
    (s_NoTimes_NoStand : PySem.W.subIn K (.ref X_NoTimes) (.ref X_NoStand) = some false)
    (s_NoTimes_NoPlay : PySem.W.subIn K (.ref X_NoTimes) (.ref X_NoPlay) = some false)
    (z_ValueError : PySem.W.nsIn K mainGlobals "ValueError" = some none)
    (z_abs : PySem.W.nsIn K mainGlobals "abs" = some none)
    (z_all : PySem.W.nsIn K mainGlobals "all" = some none)
    (z_int : PySem.W.nsIn K mainGlobals "int" = some none)
    (z_isinstance : PySem.W.nsIn K mainGlobals "isinstance" = some none)
    (z_len : PySem.W.nsIn K mainGlobals "len" = some none)
    (z_list : PySem.W.nsIn K mainGlobals "list" = some none)
    (z_min : PySem.W.nsIn K mainGlobals "min" = some none)
    (z_range : PySem.W.nsIn K mainGlobals "range" = some none)
    (z_repr : PySem.W.nsIn K mainGlobals "repr" = some none)
    (z_str : PySem.W.nsIn K mainGlobals "str" = some none)
    (z_sum : PySem.W.nsIn K mainGlobals "sum" = some none)
    (z_tuple : PySem.W.nsIn K mainGlobals "tuple" = some none)
    (z_type : PySem.W.nsIn K mainGlobals "type" = some none)
    (v_ALPHABET : PySem.W.nsIn K mainGlobals "ALPHABET" = some (some (.str "abcdefghijklmnopqrstuvwxyz" t_ALPHABET)))
    (v_HEAVIEST : PySem.W.nsIn K mainGlobals "HEAVIEST" = some (some (.int 60 t_HEAVIEST)))
    (v_LONGEST_WORD : PySem.W.nsIn K mainGlobals "LONGEST_WORD" = some (some (.int 60 t_LONGEST_WORD)))
    (v_MOST_TIMES : PySem.W.nsIn K mainGlobals "MOST_TIMES" = some (some (.int 300 t_MOST_TIMES)))
    (v_NUMBERS : PySem.W.nsIn K mainGlobals "NUMBERS" = some (some (.ref d_NUMBERS))) (l_NUMBERS : K.lookup d_NUMBERS = some ⟨.type "dict", none, .dict es_NUMBERS n_NUMBERS, #[]⟩) (k_NUMBERS : PySem.W.KeysLit w.params es_NUMBERS.toList) (b_NUMBERS : (d_NUMBERS == sysModules) = false) (e_NUMBERS : es_NUMBERS.toList.map dti = ([("left", 0), ("right", 1), ("clip", 2)] : List (Str × Int)).map some)
    (v_SIDES : PySem.W.nsIn K mainGlobals "SIDES" = some (some (.ref d_SIDES))) (l_SIDES : K.lookup d_SIDES = some ⟨.type "dict", none, .dict es_SIDES n_SIDES, #[]⟩) (k_SIDES : PySem.W.KeysLit w.params es_SIDES.toList) (b_SIDES : (d_SIDES == sysModules) = false) (e_SIDES : es_SIDES.toList.map dtx = ([("left", "left"), ("rub", "left"), ("right", "right"), ("strike", "right"), ("copy", "right"), ("cut", "right")] : List (Str × Str)).map some) :
    ∃ fd : FuncData, (∀ (s : Shared) (v : Value), BindsTo s fd ⟨[v], []⟩ [("script", v)]) ∧ ∀ base : Heap, K.In base → base.Ns mainGlobals mg → Mods base → FnG l.prog w K mg base L2.CX0 9 fa fd ["script"] (spLaw K) := by
  have e := hfa.symm.trans (PySem.W.mg_of X G a30)
  cases e
  have F0 := fun_mk (st := s_is_row) l0 c0 k0
  have F1 := fun_mk (st := s_is_whole) l1 c1 k1
  have F2 := fun_mk (st := s_is_within) l2 c2 k2
  have F3 := fun_mk (st := s_is_plain) l3 c3 k3
  have F4 := fun_mk (st := s_is_clip) l4 c4 k4
  have F5 := fun_mk (st := s_is_word) l5 c5 k5
  have F6 := fun_mk (st := s_is_key) l6 c6 k6
  have F7 := fun_mk (st := s_key_weight) l7 c7 k7
  have F8 := fun_mk (st := s_weigh) l8 c8 k8
  have F9 := fun_mk (st := s_is_hand) l9 c9 k9
  have F10 := fun_mk (st := s_check_hand) l10 c10 k10
  have F11 := fun_mk (st := s_is_sheet) l11 c11 k11
  have F12 := fun_mk (st := s_check_sheet) l12 c12 k12
  have F13 := fun_mk (st := s_nearest) l13 c13 k13
  have F14 := fun_mk (st := s_take) l14 c14 k14
  have F15 := fun_mk (st := s_do_key) l15 c15 k15
  have F16 := fun_mk (st := s_weight) l16 c16 k16
  have F17 := fun_mk (st := s_press) l17 c17 k17
  have G17 : FunD K "press" "press" (defArgs s_press) (defBody s_press) (defScope s_press) [] [("times", .int 1)] f17 _ := ⟨⟨_, _, _, _, _, _, _, _, _, _, rfl, l17, c17, .inl ⟨rfl, rfl⟩, .inr ⟨D17, rfl, fun q hq => by rw [List.mem_singleton.mp hq]; exact ⟨_, e17, _, rfl⟩⟩⟩, k17⟩
  obtain ⟨ds17, vd17, bd17⟩ := bd_press G17
  have F18 := fun_mk (st := s_go) l18 c18 k18
  have F19 := fun_mk (st := s_needed) l19 c19 k19
  have F20 := fun_mk (st := s_reach) l20 c20 k20
  have F21 := fun_mk (st := s_reaches) l21 c21 k21
  have F22 := fun_mk (st := s__law_spring) l22 c22 k22
  have F23 := fun_mk (st := s__law_draw) l23 c23 k23
  have F24 := fun_mk (st := s__law_word) l24 c24 k24
  have F25 := fun_mk (st := s__law_hand) l25 c25 k25
  have F26 := fun_mk (st := s__law_sheet) l26 c26 k26
  have F27 := fun_mk (st := s__law_no_hand) l27 c27 k27
  have F28 := fun_mk (st := s__law_which) l28 c28 k28
  have F29 := fun_mk (st := s__law_asked) l29 c29 k29
  have F30 := fun_mk (st := s_law) l30 c30 k30
  let x_NoHand : ExT K mg "NoHand" := ⟨X_NoHand, PySem.W.mg_of X G g_NoHand, k_NoHand, h_NoHand, t_NoHand, u_NoHand, f_NoHand⟩
  let x_NoSheet : ExT K mg "NoSheet" := ⟨X_NoSheet, PySem.W.mg_of X G g_NoSheet, k_NoSheet, h_NoSheet, t_NoSheet, u_NoSheet, f_NoSheet⟩
  let x_NoTimes : ExT K mg "NoTimes" := ⟨X_NoTimes, PySem.W.mg_of X G g_NoTimes, k_NoTimes, h_NoTimes, t_NoTimes, u_NoTimes, f_NoTimes⟩
  let x_NoText : ExT K mg "NoText" := ⟨X_NoText, PySem.W.mg_of X G g_NoText, k_NoText, h_NoText, t_NoText, u_NoText, f_NoText⟩
  let x_NoPlace : ExT K mg "NoPlace" := ⟨X_NoPlace, PySem.W.mg_of X G g_NoPlace, k_NoPlace, h_NoPlace, t_NoPlace, u_NoPlace, f_NoPlace⟩
  let x_NoNumber : ExT K mg "NoNumber" := ⟨X_NoNumber, PySem.W.mg_of X G g_NoNumber, k_NoNumber, h_NoNumber, t_NoNumber, u_NoNumber, f_NoNumber⟩
  let x_NoRings : ExT K mg "NoRings" := ⟨X_NoRings, PySem.W.mg_of X G g_NoRings, k_NoRings, h_NoRings, t_NoRings, u_NoRings, f_NoRings⟩
  let x_Full : ExT K mg "Full" := ⟨X_Full, PySem.W.mg_of X G g_Full, k_Full, h_Full, t_Full, u_Full, f_Full⟩
  let x_NoLengths : ExT K mg "NoLengths" := ⟨X_NoLengths, PySem.W.mg_of X G g_NoLengths, k_NoLengths, h_NoLengths, t_NoLengths, u_NoLengths, f_NoLengths⟩
  let x_NoName : ExT K mg "NoName" := ⟨X_NoName, PySem.W.mg_of X G g_NoName, k_NoName, h_NoName, t_NoName, u_NoName, f_NoName⟩
  let x_NoRow : ExT K mg "NoRow" := ⟨X_NoRow, PySem.W.mg_of X G g_NoRow, k_NoRow, h_NoRow, t_NoRow, u_NoRow, f_NoRow⟩
  let x_NoSeen : ExT K mg "NoSeen" := ⟨X_NoSeen, PySem.W.mg_of X G g_NoSeen, k_NoSeen, h_NoSeen, t_NoSeen, u_NoSeen, f_NoSeen⟩
  let x_Nothing : ExT K mg "Nothing" := ⟨X_Nothing, PySem.W.mg_of X G g_Nothing, k_Nothing, h_Nothing, t_Nothing, u_Nothing, f_Nothing⟩
  let x_NoWriting : ExT K mg "NoWriting" := ⟨X_NoWriting, PySem.W.mg_of X G g_NoWriting, k_NoWriting, h_NoWriting, t_NoWriting, u_NoWriting, f_NoWriting⟩
  let x_TooMany : ExT K mg "TooMany" := ⟨X_TooMany, PySem.W.mg_of X G g_TooMany, k_TooMany, h_TooMany, t_TooMany, u_TooMany, f_TooMany⟩
  let x_KeysError : ExT K mg "KeysError" := ⟨X_KeysError, PySem.W.mg_of X G g_KeysError, k_KeysError, h_KeysError, t_KeysError, u_KeysError, f_KeysError⟩
  let x_NoLetter : ExT K mg "NoLetter" := ⟨X_NoLetter, PySem.W.mg_of X G g_NoLetter, k_NoLetter, h_NoLetter, t_NoLetter, u_NoLetter, f_NoLetter⟩
  let x_NoStand : ExT K mg "NoStand" := ⟨X_NoStand, PySem.W.mg_of X G g_NoStand, k_NoStand, h_NoStand, t_NoStand, u_NoStand, f_NoStand⟩
  let x_NoPlay : ExT K mg "NoPlay" := ⟨X_NoPlay, PySem.W.mg_of X G g_NoPlay, k_NoPlay, h_NoPlay, t_NoPlay, u_NoPlay, f_NoPlay⟩
  let r_NoHand : RzT K X_NoHand := ⟨q_NoHand, ⟨o_NoHand, p_NoHand, u_NoHand, h_NoHand, j_NoHand, nG, nT, m_NoHand⟩, t_NoHand, w_NoHand⟩
  let r_NoSheet : RzT K X_NoSheet := ⟨q_NoSheet, ⟨o_NoSheet, p_NoSheet, u_NoSheet, h_NoSheet, j_NoSheet, nG, nT, m_NoSheet⟩, t_NoSheet, w_NoSheet⟩
  let r_NoTimes : RzT K X_NoTimes := ⟨q_NoTimes, ⟨o_NoTimes, p_NoTimes, u_NoTimes, h_NoTimes, j_NoTimes, nG, nT, m_NoTimes⟩, t_NoTimes, w_NoTimes⟩
  let T : Txt K mg w := ⟨⟨f0, _, F0, PySem.W.mg_of X G a0, F0.binds (ps := ["thing"]) fun _ _ _ _ _ _ us hl => match us, hl with | [_], _ => rfl⟩,
    ⟨f1, _, F1, PySem.W.mg_of X G a1, F1.binds (ps := ["thing", "low"]) fun _ _ _ _ _ _ us hl => match us, hl with | [_, _], _ => rfl⟩,
    ⟨f2, _, F2, PySem.W.mg_of X G a2, F2.binds (ps := ["thing", "low", "high"]) fun _ _ _ _ _ _ us hl => match us, hl with | [_, _, _], _ => rfl⟩,
    ⟨f3, _, F3, PySem.W.mg_of X G a3, F3.binds (ps := ["thing"]) fun _ _ _ _ _ _ us hl => match us, hl with | [_], _ => rfl⟩,
    ⟨f4, _, F4, PySem.W.mg_of X G a4, F4.binds (ps := ["thing"]) fun _ _ _ _ _ _ us hl => match us, hl with | [_], _ => rfl⟩,
    ⟨f5, _, F5, PySem.W.mg_of X G a5, F5.binds (ps := ["thing"]) fun _ _ _ _ _ _ us hl => match us, hl with | [_], _ => rfl⟩,
    ⟨f6, _, F6, PySem.W.mg_of X G a6, F6.binds (ps := ["thing"]) fun _ _ _ _ _ _ us hl => match us, hl with | [_], _ => rfl⟩,
    ⟨f7, _, F7, PySem.W.mg_of X G a7, F7.binds (ps := ["key"]) fun _ _ _ _ _ _ us hl => match us, hl with | [_], _ => rfl⟩,
    ⟨f8, _, F8, PySem.W.mg_of X G a8, F8.binds (ps := ["keys"]) fun _ _ _ _ _ _ us hl => match us, hl with | [_], _ => rfl⟩,
    ⟨f9, _, F9, PySem.W.mg_of X G a9, F9.binds (ps := ["thing"]) fun _ _ _ _ _ _ us hl => match us, hl with | [_], _ => rfl⟩,
    ⟨f10, _, F10, PySem.W.mg_of X G a10, F10.binds (ps := ["thing"]) fun _ _ _ _ _ _ us hl => match us, hl with | [_], _ => rfl⟩,
    ⟨f11, _, F11, PySem.W.mg_of X G a11, F11.binds (ps := ["thing"]) fun _ _ _ _ _ _ us hl => match us, hl with | [_], _ => rfl⟩,
    ⟨f12, _, F12, PySem.W.mg_of X G a12, F12.binds (ps := ["thing"]) fun _ _ _ _ _ _ us hl => match us, hl with | [_], _ => rfl⟩,
    ⟨f13, _, F13, PySem.W.mg_of X G a13, F13.binds (ps := ["side", "many"]) fun _ _ _ _ _ _ us hl => match us, hl with | [_, _], _ => rfl⟩,
    ⟨f14, _, F14, PySem.W.mg_of X G a14, F14.binds (ps := ["side", "many"]) fun _ _ _ _ _ _ us hl => match us, hl with | [_, _], _ => rfl⟩,
    ⟨f15, _, F15, PySem.W.mg_of X G a15, F15.binds (ps := ["key", "left", "right", "held"]) fun _ _ _ _ _ _ us hl => match us, hl with | [_, _, _, _], _ => rfl⟩,
    ⟨f16, _, F16, PySem.W.mg_of X G a16, F16.binds (ps := ["hand"]) fun _ _ _ _ _ _ us hl => match us, hl with | [_], _ => rfl⟩,
    ⟨f17, _, F17, PySem.W.mg_of X G a17, ds17, vd17, bd17, kb_press G17⟩,
    ⟨f18, _, F18, PySem.W.mg_of X G a18, F18.binds (ps := ["key", "lengths"]) fun _ _ _ _ _ _ us hl => match us, hl with | [_, _], _ => rfl⟩,
    ⟨f19, _, F19, PySem.W.mg_of X G a19, F19.binds (ps := ["hand", "side", "lengths"]) fun _ _ _ _ _ _ us hl => match us, hl with | [_, _, _], _ => rfl⟩,
    ⟨f20, _, F20, PySem.W.mg_of X G a20, F20.binds (ps := ["hand", "side"]) fun _ _ _ _ _ _ us hl => match us, hl with | [_, _], _ => rfl⟩,
    ⟨f21, _, F21, PySem.W.mg_of X G a21, F21.binds (ps := ["hand"]) fun _ _ _ _ _ _ us hl => match us, hl with | [_], _ => rfl⟩,
    ⟨f22, _, F22, PySem.W.mg_of X G a22, F22.binds (ps := ["script"]) fun _ _ _ _ _ _ us hl => match us, hl with | [_], _ => rfl⟩,
    ⟨f23, _, F23, PySem.W.mg_of X G a23, F23.binds (ps := ["spring", "many"]) fun _ _ _ _ _ _ us hl => match us, hl with | [_, _], _ => rfl⟩,
    ⟨f24, _, F24, PySem.W.mg_of X G a24, F24.binds (ps := ["spring", "most"]) fun _ _ _ _ _ _ us hl => match us, hl with | [_, _], _ => rfl⟩,
    ⟨f25, _, F25, PySem.W.mg_of X G a25, F25.binds (ps := ["spring", "most", "wide"]) fun _ _ _ _ _ _ us hl => match us, hl with | [_, _, _], _ => rfl⟩,
    ⟨f26, _, F26, PySem.W.mg_of X G a26, F26.binds (ps := ["spring", "most"]) fun _ _ _ _ _ _ us hl => match us, hl with | [_, _], _ => rfl⟩,
    ⟨f27, _, F27, PySem.W.mg_of X G a27, F27.binds (ps := ["spring", "hand"]) fun _ _ _ _ _ _ us hl => match us, hl with | [_, _], _ => rfl⟩,
    ⟨f28, _, F28, PySem.W.mg_of X G a28, F28.binds (ps := ["caught"]) fun _ _ _ _ _ _ us hl => match us, hl with | [_], _ => rfl⟩,
    ⟨f29, _, F29, PySem.W.mg_of X G a29, F29.binds (ps := ["ask", "sheet", "hand", "often_so"]) fun _ _ _ _ _ _ us hl => match us, hl with | [_, _, _, _], _ => rfl⟩,
    ⟨fa, _, F30, PySem.W.mg_of X G a30, F30.binds (ps := ["script"]) fun _ _ _ _ _ _ us hl => match us, hl with | [_], _ => rfl⟩,
    PySem.W.mg_none_of X G z_ValueError,
    PySem.W.mg_none_of X G z_abs,
    PySem.W.mg_none_of X G z_all,
    PySem.W.mg_none_of X G z_int,
    PySem.W.mg_none_of X G z_isinstance,
    PySem.W.mg_none_of X G z_len,
    PySem.W.mg_none_of X G z_list,
    PySem.W.mg_none_of X G z_min,
    PySem.W.mg_none_of X G z_range,
    PySem.W.mg_none_of X G z_repr,
    PySem.W.mg_none_of X G z_str,
    PySem.W.mg_none_of X G z_sum,
    PySem.W.mg_none_of X G z_tuple,
    PySem.W.mg_none_of X G z_type,
    x_NoHand,
    x_NoSheet,
    x_NoTimes,
    x_NoText,
    x_NoPlace,
    x_NoNumber,
    x_NoRings,
    x_Full,
    x_NoLengths,
    x_NoName,
    x_NoRow,
    x_NoSeen,
    x_Nothing,
    x_NoWriting,
    x_TooMany,
    x_KeysError,
    x_NoLetter,
    x_NoStand,
    x_NoPlay,
    r_NoHand,
    r_NoSheet,
    r_NoTimes,
    s_NoHand_NoSheet,
    s_NoHand_NoTimes,
    s_NoHand_NoText,
    s_NoHand_NoPlace,
    s_NoHand_NoNumber,
    s_NoHand_NoRings,
    s_NoHand_Full,
    s_NoHand_NoLengths,
    s_NoHand_NoName,
    s_NoHand_NoRow,
    s_NoHand_NoSeen,
    s_NoHand_Nothing,
    s_NoHand_NoWriting,
    s_NoHand_TooMany,
    s_NoHand_KeysError,
    s_NoHand_NoLetter,
    s_NoHand_NoStand,
    s_NoHand_NoPlay,
    s_NoSheet_NoHand,
    s_NoSheet_NoTimes,
    s_NoSheet_NoText,
    s_NoSheet_NoPlace,
    s_NoSheet_NoNumber,
    s_NoSheet_NoRings,
    s_NoSheet_Full,
    s_NoSheet_NoLengths,
    s_NoSheet_NoName,
    s_NoSheet_NoRow,
    s_NoSheet_NoSeen,
    s_NoSheet_Nothing,
    s_NoSheet_NoWriting,
    s_NoSheet_TooMany,
    s_NoSheet_KeysError,
    s_NoSheet_NoLetter,
    s_NoSheet_NoStand,
    s_NoSheet_NoPlay,
    s_NoTimes_NoHand,
    s_NoTimes_NoSheet,
    s_NoTimes_NoText,
    s_NoTimes_NoPlace,
    s_NoTimes_NoNumber,
    s_NoTimes_NoRings,
    s_NoTimes_Full,
    s_NoTimes_NoLengths,
    s_NoTimes_NoName,
    s_NoTimes_NoRow,
    s_NoTimes_NoSeen,
    s_NoTimes_Nothing,
    s_NoTimes_NoWriting,
    s_NoTimes_TooMany,
    s_NoTimes_KeysError,
    s_NoTimes_NoLetter,
    s_NoTimes_NoStand,
    s_NoTimes_NoPlay,
    ⟨_, PySem.W.mg_of X G v_ALPHABET⟩,
    ⟨_, PySem.W.mg_of X G v_HEAVIEST⟩,
    ⟨_, PySem.W.mg_of X G v_LONGEST_WORD⟩,
    ⟨_, PySem.W.mg_of X G v_MOST_TIMES⟩,
    ⟨d_NUMBERS, es_NUMBERS, n_NUMBERS, PySem.W.mg_of X G v_NUMBERS, ⟨l_NUMBERS, k_NUMBERS, b_NUMBERS⟩, e_NUMBERS⟩,
    ⟨d_SIDES, es_SIDES, n_SIDES, PySem.W.mg_of X G v_SIDES, ⟨l_SIDES, k_SIDES, b_SIDES⟩, e_SIDES⟩⟩
  exact ⟨T.f_law.fd, fun s v => .of_eq rfl, fun base _ _ hm => ok_law T hm⟩
end BK
open PySem PySem.W PyProof.Rows
set_option maxRecDepth 100000 in
set_option maxHeartbeats 0 in
theorem PySem.Challenge.cw_blindkeys_k11_hands_refused_holds : PySem.Challenge.rw_blindkeys_k11_hands_refused.Holds := by
  w_on; o_law; k_head; (case hw => w_witness2)
  k_fill
  refine BK.walk_G (l := PySem.Challenge.rw_blindkeys_k11_hands_refused) (n := 63) (k := 9) (x := "script") (C := fun _ => L2.CX0) (sp := fun w => BK.spLaw _) rfl (by decide) (by decide +kernel) rfl ⟨rfl, by decide, by decide⟩ (fun w h Y => PySem.W.kIn_of Y) ?F (fun _ _ a ns hl _ hS => ⟨a, ns, rfl, hS, hl, fun _ => rfl⟩) (fun _ _ _ _ _ h => h)
  case F =>
    intro w mg fa h KX G hmg
    refine' BK.all_mk KX G hmg ?a0 ?l0 ?c0 ?k0 ?a1 ?l1 ?c1 ?k1 ?a2 ?l2 ?c2 ?k2 ?a3 ?l3 ?c3 ?k3 ?a4 ?l4 ?c4 ?k4 ?a5 ?l5 ?c5 ?k5 ?a6 ?l6 ?c6 ?k6 ?a7 ?l7 ?c7 ?k7 ?a8 ?l8 ?c8 ?k8 ?a9 ?l9 ?c9 ?k9 ?a10 ?l10 ?c10 ?k10 ?a11 ?l11 ?c11 ?k11 ?a12 ?l12 ?c12 ?k12 ?a13 ?l13 ?c13 ?k13 ?a14 ?l14 ?c14 ?k14 ?a15 ?l15 ?c15 ?k15 ?a16 ?l16 ?c16 ?k16 ?a17 ?l17 ?c17 ?k17 ?e17 ?a18 ?l18 ?c18 ?k18 ?a19 ?l19 ?c19 ?k19 ?a20 ?l20 ?c20 ?k20 ?a21 ?l21 ?c21 ?k21 ?a22 ?l22 ?c22 ?k22 ?a23 ?l23 ?c23 ?k23 ?a24 ?l24 ?c24 ?k24 ?a25 ?l25 ?c25 ?k25 ?a26 ?l26 ?c26 ?k26 ?a27 ?l27 ?c27 ?k27 ?a28 ?l28 ?c28 ?k28 ?a29 ?l29 ?c29 ?k29 ?a30 ?l30 ?c30 ?k30 ?g_NoHand ?k_NoHand ?h_NoHand ?t_NoHand ?u_NoHand ?f_NoHand ?g_NoSheet ?k_NoSheet ?h_NoSheet ?t_NoSheet ?u_NoSheet ?f_NoSheet ?g_NoTimes ?k_NoTimes ?h_NoTimes ?t_NoTimes ?u_NoTimes ?f_NoTimes ?g_NoText ?k_NoText ?h_NoText ?t_NoText ?u_NoText ?f_NoText ?g_NoPlace ?k_NoPlace ?h_NoPlace ?t_NoPlace ?u_NoPlace ?f_NoPlace ?g_NoNumber ?k_NoNumber ?h_NoNumber ?t_NoNumber ?u_NoNumber ?f_NoNumber ?g_NoRings ?k_NoRings ?h_NoRings ?t_NoRings ?u_NoRings ?f_NoRings ?g_Full ?k_Full ?h_Full ?t_Full ?u_Full ?f_Full ?g_NoLengths ?k_NoLengths ?h_NoLengths ?t_NoLengths ?u_NoLengths ?f_NoLengths ?g_NoName ?k_NoName ?h_NoName ?t_NoName ?u_NoName ?f_NoName ?g_NoRow ?k_NoRow ?h_NoRow ?t_NoRow ?u_NoRow ?f_NoRow ?g_NoSeen ?k_NoSeen ?h_NoSeen ?t_NoSeen ?u_NoSeen ?f_NoSeen ?g_Nothing ?k_Nothing ?h_Nothing ?t_Nothing ?u_Nothing ?f_Nothing ?g_NoWriting ?k_NoWriting ?h_NoWriting ?t_NoWriting ?u_NoWriting ?f_NoWriting ?g_TooMany ?k_TooMany ?h_TooMany ?t_TooMany ?u_TooMany ?f_TooMany ?g_KeysError ?k_KeysError ?h_KeysError ?t_KeysError ?u_KeysError ?f_KeysError ?g_NoLetter ?k_NoLetter ?h_NoLetter ?t_NoLetter ?u_NoLetter ?f_NoLetter ?g_NoStand ?k_NoStand ?h_NoStand ?t_NoStand ?u_NoStand ?f_NoStand ?g_NoPlay ?k_NoPlay ?h_NoPlay ?t_NoPlay ?u_NoPlay ?f_NoPlay ?nG ?nT ?q_NoHand ?o_NoHand ?p_NoHand ?j_NoHand ?m_NoHand ?w_NoHand ?s_NoHand_NoSheet ?s_NoHand_NoTimes ?s_NoHand_NoText ?s_NoHand_NoPlace ?s_NoHand_NoNumber ?s_NoHand_NoRings ?s_NoHand_Full ?s_NoHand_NoLengths ?s_NoHand_NoName ?s_NoHand_NoRow ?s_NoHand_NoSeen ?s_NoHand_Nothing ?s_NoHand_NoWriting ?s_NoHand_TooMany ?s_NoHand_KeysError ?s_NoHand_NoLetter ?s_NoHand_NoStand ?s_NoHand_NoPlay ?q_NoSheet ?o_NoSheet ?p_NoSheet ?j_NoSheet ?m_NoSheet ?w_NoSheet ?s_NoSheet_NoHand ?s_NoSheet_NoTimes ?s_NoSheet_NoText ?s_NoSheet_NoPlace ?s_NoSheet_NoNumber ?s_NoSheet_NoRings ?s_NoSheet_Full ?s_NoSheet_NoLengths ?s_NoSheet_NoName ?s_NoSheet_NoRow ?s_NoSheet_NoSeen ?s_NoSheet_Nothing ?s_NoSheet_NoWriting ?s_NoSheet_TooMany ?s_NoSheet_KeysError ?s_NoSheet_NoLetter ?s_NoSheet_NoStand ?s_NoSheet_NoPlay ?q_NoTimes ?o_NoTimes ?p_NoTimes ?j_NoTimes ?m_NoTimes ?w_NoTimes ?s_NoTimes_NoHand ?s_NoTimes_NoSheet ?s_NoTimes_NoText ?s_NoTimes_NoPlace ?s_NoTimes_NoNumber ?s_NoTimes_NoRings ?s_NoTimes_Full ?s_NoTimes_NoLengths ?s_NoTimes_NoName ?s_NoTimes_NoRow ?s_NoTimes_NoSeen ?s_NoTimes_Nothing ?s_NoTimes_NoWriting ?s_NoTimes_TooMany ?s_NoTimes_KeysError ?s_NoTimes_NoLetter ?s_NoTimes_NoStand ?s_NoTimes_NoPlay ?z_ValueError ?z_abs ?z_all ?z_int ?z_isinstance ?z_len ?z_list ?z_min ?z_range ?z_repr ?z_str ?z_sum ?z_tuple ?z_type ?v_ALPHABET ?v_HEAVIEST ?v_LONGEST_WORD ?v_MOST_TIMES ?v_NUMBERS ?l_NUMBERS ?k_NUMBERS ?b_NUMBERS ?e_NUMBERS ?v_SIDES ?l_SIDES ?k_SIDES ?b_SIDES ?e_SIDES
    (case a0 => k_is)
    (case l0 => k_is)
    (case c0 => k_is)
    (case k0 => k_is)
    (case a1 => k_is)
    (case l1 => k_is)
    (case c1 => k_is)
    (case k1 => k_is)
    (case a2 => k_is)
    (case l2 => k_is)
    (case c2 => k_is)
    (case k2 => k_is)
    (case a3 => k_is)
    (case l3 => k_is)
    (case c3 => k_is)
    (case k3 => k_is)
    (case a4 => k_is)
    (case l4 => k_is)
    (case c4 => k_is)
    (case k4 => k_is)
    (case a5 => k_is)
    (case l5 => k_is)
    (case c5 => k_is)
    (case k5 => k_is)
    (case a6 => k_is)
    (case l6 => k_is)
    (case c6 => k_is)
    (case k6 => k_is)
    (case a7 => k_is)
    (case l7 => k_is)
    (case c7 => k_is)
    (case k7 => k_is)
    (case a8 => k_is)
    (case l8 => k_is)
    (case c8 => k_is)
    (case k8 => k_is)
    (case a9 => k_is)
    (case l9 => k_is)
    (case c9 => k_is)
    (case k9 => k_is)
    (case a10 => k_is)
    (case l10 => k_is)
    (case c10 => k_is)
    (case k10 => k_is)
    (case a11 => k_is)
    (case l11 => k_is)
    (case c11 => k_is)
    (case k11 => k_is)
    (case a12 => k_is)
    (case l12 => k_is)
    (case c12 => k_is)
    (case k12 => k_is)
    (case a13 => k_is)
    (case l13 => k_is)
    (case c13 => k_is)
    (case k13 => k_is)
    (case a14 => k_is)
    (case l14 => k_is)
    (case c14 => k_is)
    (case k14 => k_is)
    (case a15 => k_is)
    (case l15 => k_is)
    (case c15 => k_is)
    (case k15 => k_is)
    (case a16 => k_is)
    (case l16 => k_is)
    (case c16 => k_is)
    (case k16 => k_is)
    (case a17 => k_is)
    (case l17 => k_is)
    (case c17 => k_is)
    (case k17 => k_is)
    (case e17 => k_is)
    (case a18 => k_is)
    (case l18 => k_is)
    (case c18 => k_is)
    (case k18 => k_is)
    (case a19 => k_is)
    (case l19 => k_is)
    (case c19 => k_is)
    (case k19 => k_is)
    (case a20 => k_is)
    (case l20 => k_is)
    (case c20 => k_is)
    (case k20 => k_is)
    (case a21 => k_is)
    (case l21 => k_is)
    (case c21 => k_is)
    (case k21 => k_is)
    (case a22 => k_is)
    (case l22 => k_is)
    (case c22 => k_is)
    (case k22 => k_is)
    (case a23 => k_is)
    (case l23 => k_is)
    (case c23 => k_is)
    (case k23 => k_is)
    (case a24 => k_is)
    (case l24 => k_is)
    (case c24 => k_is)
    (case k24 => k_is)
    (case a25 => k_is)
    (case l25 => k_is)
    (case c25 => k_is)
    (case k25 => k_is)
    (case a26 => k_is)
    (case l26 => k_is)
    (case c26 => k_is)
    (case k26 => k_is)
    (case a27 => k_is)
    (case l27 => k_is)
    (case c27 => k_is)
    (case k27 => k_is)
    (case a28 => k_is)
    (case l28 => k_is)
    (case c28 => k_is)
    (case k28 => k_is)
    (case a29 => k_is)
    (case l29 => k_is)
    (case c29 => k_is)
    (case k29 => k_is)
    (case a30 => k_is)
    (case l30 => k_is)
    (case c30 => k_is)
    (case k30 => k_is)
    (case g_NoHand => k_is)
    (case k_NoHand => k_is)
    (case h_NoHand => k_is)
    (case t_NoHand => k_is)
    (case u_NoHand => k_is)
    (case f_NoHand => k_is)
    (case g_NoSheet => k_is)
    (case k_NoSheet => k_is)
    (case h_NoSheet => k_is)
    (case t_NoSheet => k_is)
    (case u_NoSheet => k_is)
    (case f_NoSheet => k_is)
    (case g_NoTimes => k_is)
    (case k_NoTimes => k_is)
    (case h_NoTimes => k_is)
    (case t_NoTimes => k_is)
    (case u_NoTimes => k_is)
    (case f_NoTimes => k_is)
    (case g_NoText => k_is)
    (case k_NoText => k_is)
    (case h_NoText => k_is)
    (case t_NoText => k_is)
    (case u_NoText => k_is)
    (case f_NoText => k_is)
    (case g_NoPlace => k_is)
    (case k_NoPlace => k_is)
    (case h_NoPlace => k_is)
    (case t_NoPlace => k_is)
    (case u_NoPlace => k_is)
    (case f_NoPlace => k_is)
    (case g_NoNumber => k_is)
    (case k_NoNumber => k_is)
    (case h_NoNumber => k_is)
    (case t_NoNumber => k_is)
    (case u_NoNumber => k_is)
    (case f_NoNumber => k_is)
    (case g_NoRings => k_is)
    (case k_NoRings => k_is)
    (case h_NoRings => k_is)
    (case t_NoRings => k_is)
    (case u_NoRings => k_is)
    (case f_NoRings => k_is)
    (case g_Full => k_is)
    (case k_Full => k_is)
    (case h_Full => k_is)
    (case t_Full => k_is)
    (case u_Full => k_is)
    (case f_Full => k_is)
    (case g_NoLengths => k_is)
    (case k_NoLengths => k_is)
    (case h_NoLengths => k_is)
    (case t_NoLengths => k_is)
    (case u_NoLengths => k_is)
    (case f_NoLengths => k_is)
    (case g_NoName => k_is)
    (case k_NoName => k_is)
    (case h_NoName => k_is)
    (case t_NoName => k_is)
    (case u_NoName => k_is)
    (case f_NoName => k_is)
    (case g_NoRow => k_is)
    (case k_NoRow => k_is)
    (case h_NoRow => k_is)
    (case t_NoRow => k_is)
    (case u_NoRow => k_is)
    (case f_NoRow => k_is)
    (case g_NoSeen => k_is)
    (case k_NoSeen => k_is)
    (case h_NoSeen => k_is)
    (case t_NoSeen => k_is)
    (case u_NoSeen => k_is)
    (case f_NoSeen => k_is)
    (case g_Nothing => k_is)
    (case k_Nothing => k_is)
    (case h_Nothing => k_is)
    (case t_Nothing => k_is)
    (case u_Nothing => k_is)
    (case f_Nothing => k_is)
    (case g_NoWriting => k_is)
    (case k_NoWriting => k_is)
    (case h_NoWriting => k_is)
    (case t_NoWriting => k_is)
    (case u_NoWriting => k_is)
    (case f_NoWriting => k_is)
    (case g_TooMany => k_is)
    (case k_TooMany => k_is)
    (case h_TooMany => k_is)
    (case t_TooMany => k_is)
    (case u_TooMany => k_is)
    (case f_TooMany => k_is)
    (case g_KeysError => k_is)
    (case k_KeysError => k_is)
    (case h_KeysError => k_is)
    (case t_KeysError => k_is)
    (case u_KeysError => k_is)
    (case f_KeysError => k_is)
    (case g_NoLetter => k_is)
    (case k_NoLetter => k_is)
    (case h_NoLetter => k_is)
    (case t_NoLetter => k_is)
    (case u_NoLetter => k_is)
    (case f_NoLetter => k_is)
    (case g_NoStand => k_is)
    (case k_NoStand => k_is)
    (case h_NoStand => k_is)
    (case t_NoStand => k_is)
    (case u_NoStand => k_is)
    (case f_NoStand => k_is)
    (case g_NoPlay => k_is)
    (case k_NoPlay => k_is)
    (case h_NoPlay => k_is)
    (case t_NoPlay => k_is)
    (case u_NoPlay => k_is)
    (case f_NoPlay => k_is)
    (case nG => k_is)
    (case nT => k_is)
    (case q_NoHand => k_exc)
    (case o_NoHand => k_is)
    (case p_NoHand => k_is)
    (case j_NoHand => k_is)
    (case m_NoHand => k_is)
    (case w_NoHand => k_is)
    (case s_NoHand_NoSheet => k_is)
    (case s_NoHand_NoTimes => k_is)
    (case s_NoHand_NoText => k_is)
    (case s_NoHand_NoPlace => k_is)
    (case s_NoHand_NoNumber => k_is)
    (case s_NoHand_NoRings => k_is)
    (case s_NoHand_Full => k_is)
    (case s_NoHand_NoLengths => k_is)
    (case s_NoHand_NoName => k_is)
    (case s_NoHand_NoRow => k_is)
    (case s_NoHand_NoSeen => k_is)
    (case s_NoHand_Nothing => k_is)
    (case s_NoHand_NoWriting => k_is)
    (case s_NoHand_TooMany => k_is)
    (case s_NoHand_KeysError => k_is)
    (case s_NoHand_NoLetter => k_is)
    (case s_NoHand_NoStand => k_is)
    (case s_NoHand_NoPlay => k_is)
    (case q_NoSheet => k_exc)
    (case o_NoSheet => k_is)
    (case p_NoSheet => k_is)
    (case j_NoSheet => k_is)
    (case m_NoSheet => k_is)
    (case w_NoSheet => k_is)
    (case s_NoSheet_NoHand => k_is)
    (case s_NoSheet_NoTimes => k_is)
    (case s_NoSheet_NoText => k_is)
    (case s_NoSheet_NoPlace => k_is)
    (case s_NoSheet_NoNumber => k_is)
    (case s_NoSheet_NoRings => k_is)
    (case s_NoSheet_Full => k_is)
    (case s_NoSheet_NoLengths => k_is)
    (case s_NoSheet_NoName => k_is)
    (case s_NoSheet_NoRow => k_is)
    (case s_NoSheet_NoSeen => k_is)
    (case s_NoSheet_Nothing => k_is)
    (case s_NoSheet_NoWriting => k_is)
    (case s_NoSheet_TooMany => k_is)
    (case s_NoSheet_KeysError => k_is)
    (case s_NoSheet_NoLetter => k_is)
    (case s_NoSheet_NoStand => k_is)
    (case s_NoSheet_NoPlay => k_is)
    (case q_NoTimes => k_exc)
    (case o_NoTimes => k_is)
    (case p_NoTimes => k_is)
    (case j_NoTimes => k_is)
    (case m_NoTimes => k_is)
    (case w_NoTimes => k_is)
    (case s_NoTimes_NoHand => k_is)
    (case s_NoTimes_NoSheet => k_is)
    (case s_NoTimes_NoText => k_is)
    (case s_NoTimes_NoPlace => k_is)
    (case s_NoTimes_NoNumber => k_is)
    (case s_NoTimes_NoRings => k_is)
    (case s_NoTimes_Full => k_is)
    (case s_NoTimes_NoLengths => k_is)
    (case s_NoTimes_NoName => k_is)
    (case s_NoTimes_NoRow => k_is)
    (case s_NoTimes_NoSeen => k_is)
    (case s_NoTimes_Nothing => k_is)
    (case s_NoTimes_NoWriting => k_is)
    (case s_NoTimes_TooMany => k_is)
    (case s_NoTimes_KeysError => k_is)
    (case s_NoTimes_NoLetter => k_is)
    (case s_NoTimes_NoStand => k_is)
    (case s_NoTimes_NoPlay => k_is)
    (case z_ValueError => k_is)
    (case z_abs => k_is)
    (case z_all => k_is)
    (case z_int => k_is)
    (case z_isinstance => k_is)
    (case z_len => k_is)
    (case z_list => k_is)
    (case z_min => k_is)
    (case z_range => k_is)
    (case z_repr => k_is)
    (case z_str => k_is)
    (case z_sum => k_is)
    (case z_tuple => k_is)
    (case z_type => k_is)
    (case v_ALPHABET => k_is)
    (case v_HEAVIEST => k_is)
    (case v_LONGEST_WORD => k_is)
    (case v_MOST_TIMES => k_is)
    (case v_NUMBERS => k_is)
    (case l_NUMBERS => k_is)
    (case k_NUMBERS => k_keys)
    (case b_NUMBERS => rfl)
    (case e_NUMBERS => rfl)
    (case v_SIDES => k_is)
    (case l_SIDES => k_is)
    (case k_SIDES => k_keys)
    (case b_SIDES => rfl)
    (case e_SIDES => rfl)
