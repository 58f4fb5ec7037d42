import PyProof.Rows.All
import Wide.All
import OpenK.AllK
import Wide.FinOn
import PyProof.TypeEq
import PyProof.Rows.StrMul
import PyProof.LongRange
import HandS.ForMost
import HandS.Wide
import HandS.WideBits
import HandS.More
import HandS.StrMore
import HandS.NoneIn
import HandS.Flow
import HandS.SortInts
import PySem.Challenge.RW_blindkeys_k06_whole_texts_told_otherwise
set_option Elab.async false
set_option linter.all false
set_option maxRecDepth 100000
set_option maxHeartbeats 4000000
namespace BK
open PySem PySem.Spec PyProof.Rows L2

/-! ### more rules -/
section
variable {A : Around} {s : Shared}
theorem meta_of {n : String} (h : n ∈ ["int", "str", "bool", "NoneType", "list", "tuple", "dict"]) (s' : Shared) : s'.TypeIs (.type n) "type" := by
  simp only [List.mem_cons, List.not_mem_nil, or_false] at h
  rcases h with rfl | rfl | rfl | rfl | rfl | rfl | rfl
  · exact TypeEq.meta_int s'
  · exact TypeEq.meta_str s'
  · exact TypeEq.meta_bool s'
  · exact TypeEq.meta_NoneType s'
  · exact TypeEq.meta_list s'
  · exact TypeEq.meta_tuple s'
  · exact TypeEq.meta_dict s'
theorem eqAt_ty {a b : String} (ha : a ∈ ["int", "str", "bool", "NoneType", "list", "tuple", "dict"]) (hb : b ∈ ["int", "str", "bool", "NoneType", "list", "tuple", "dict"]) : SeqAt.EqAt A s (.type a) (.type b) (decide (a = b)) := fun prog w E Q h => by
  unfold eqBool
  refine wpAny_holding ?_
  by_cases e : a = b
  · subst e
    rw [decide_eq_true rfl] at h
    refine wpAny_ite_split (fun _ => wpAny_bind (wpAny_rule (wpAny_pure h))) (fun hab => absurd (beq_self_eq_true _) hab)
  · rw [decide_eq_false e] at h
    have hne : (Value.type a == Value.type b) = false := beq_eq_false_iff_ne.mpr fun z => e (Value.type.inj z)
    refine wpAny_ite_split (fun hab => absurd hab (by rw [hne]; exact Bool.false_ne_true)) (fun _ => ?_)
    exact wpAny_bind (TypeEq.eq_type_other (meta_of ha) (meta_of hb) hne (wpAny_truthy_bool h))
end
abbrev knownTy : List String := ["int", "str", "bool", "NoneType", "list", "tuple", "dict"]
/-- type(x) in (list, tuple) -/
def rInTy (K : PySem.W.Frag) : R2 := fun x y H Q => ∃ (a : String) (p : Addr) (ns : List String), x = .ty a ∧ y = .ref p ∧ SqT K H p (ns.map V.ty) ∧ a ∈ knownTy ∧ (∀ n ∈ ns, n ∈ knownTy) ∧ Q (.bl (decide (a ∈ ns))) H
theorem vals_ty : ∀ {ns : List String} {us : List Value}, Vals (ns.map V.ty) us → us = ns.map Value.type
  | [], _, .nil => rfl
  | n :: ns, _, .cons r t => by
    have e := vals_ty t
    cases (show _ = Value.type n from r)
    rw [e, List.map_cons]
section
variable {X : Cx}
theorem op_in_ty : OpR X (compareOp .In) (rInTy X.K) := by
  intro pins s σ H x y v u Q I rx ry h
  obtain ⟨a, p, ns, rfl, rfl, hq, ha, hn, q⟩ := h
  cases (show v = Value.type a from rx)
  cases (show u = Value.ref p from ry)
  obtain ⟨its, r, pl, hz⟩ := I.tuple hq
  have e := vals_ty r
  subst e
  refine SeqAt.in_tupleAt (fun y => match y with | .type n => decide (n = a) | _ => false) pl (fun w hw => ?_) ⟨.bl _, H, I, rfl, ?_⟩
  · simp only [List.mem_toArray, List.mem_map] at hw
    obtain ⟨n, hn1, rfl⟩ := hw
    exact eqAt_ty (hn n hn1) ha
  · have e : (((ns.map Value.type).toArray).any (fun y => match y with | .type n => decide (n = a) | _ => false)) = decide (a ∈ ns) := by
      rw [List.any_toArray, List.any_map, Bool.eq_iff_iff, List.any_eq_true, decide_eq_true_iff]
      constructor
      · rintro ⟨n, h1, h2⟩
        have : n = a := of_decide_eq_true h2
        subst this
        exact h1
      · intro h1
        exact ⟨a, h1, decide_eq_true rfl⟩
    rw [e]
    exact q
/-- text * int -/
def rMulS : R2 := fun x y H Q => ∃ z n, x = .str z ∧ y = .int n ∧ MulOk z n ∧ Q (.str (Txt.mul z n)) H
theorem op_mul_str : OpR X (binaryOp .Mult) rMulS := by
  intro pins s σ H x y v u Q I rx ry h
  obtain ⟨z, n, rfl, rfl, ok, q⟩ := h
  obtain ⟨t, rfl⟩ := rx
  obtain ⟨t', rfl⟩ := ry
  exact SB.mul ok fun t2 k => ⟨.str _, H, I.tok _, ⟨_, rfl⟩, q⟩
theorem OpR.or {f : Value → Value → Sem Value} {r r' : R2} (h : OpR X f r) (h' : OpR X f r') : OpR X f (fun x y H Q => r x y H Q ∨ r' x y H Q) := by
  intro pins s σ H x y v u Q I rx ry hh
  rcases hh with hh | hh
  · exact h pins s σ H x y v u Q I rx ry hh
  · exact h' pins s σ H x y v u Q I rx ry hh
theorem pi_or {tg it : PySem.Expr} {w1 w2 : TI} (h1 : PI X tg it w1) (h2 : PI X tg it w2) : PI X tg it (fun σ H R => w1 σ H R ∨ w2 σ H R) := ⟨fun pins s σ H R I h => by
  rcases h with h | h
  · exact h1.run pins s σ H R I h
  · exact h2.run pins s σ H R I h⟩
theorem pg_or {tg : PySem.Expr} {g1 g2 : TG} (h1 : PG X tg g1) (h2 : PG X tg g2) : PG X tg (fun v σ H Q => g1 v σ H Q ∨ g2 v σ H Q) := ⟨fun pins s σ H v u Q I r h => by
  rcases h with h | h
  · exact h1.run pins s σ H v u Q I r h
  · exact h2.run pins s σ H v u Q I r h⟩
end

/-! ### range(a, b) of any ints -/
section
theorem turn_long {P : Program} {w : World} {K : PySem.W.Frag} {tg : PySem.Expr} (it : Addr) (lo : Int) (n : Nat) : Turn P w K tg (Itr lo n) [it] it (fun i h => IsLongIter h it (lo + (i : Nat) * 1) ((n : Int) - (i : Nat)) 1) where
  mem := by simp
  obj := fun i h st b hb => by
    have e : b = it := by simpa using hb
    subst e
    exact ⟨_, st, fun v z => by
      have z' : Data.fields _ = Data.cell v := z
      cases z'⟩
  keep := fun i h h' st k => k it (by simp) _ st
  item := by
    intro X hP hw hK hc i pins s σ H E I hf st hg
    subst hP hw hK
    obtain ⟨f0, f1, f2, f3, f4, f5⟩ := hf it (by simp)
    have W := Walks.longrange (prog := X.prog) (w := X.w) (I.ok.hd hc) it lo 1 n
    refine W.item i s _ _ hg st fun v h' tk hv st' kk => ?_
    obtain ⟨t, rfl⟩ := hv
    have I1 : Inv X pins σ H { s with heap := h', toks := tk } := I.turned (fun b o hb e => kk b o (by simpa using hb) e) f0 f1 f3 f4 f5
    refine ⟨_, rfl, go_of (s := { s with heap := h', toks := tk }) (n := "longrange_iterator") st' rfl rfl (by decide) ⟨.int (lo + i), H, I1, ⟨t, ?_⟩, ⟨rfl, rfl⟩, st', fun b hb => (hf b hb).1⟩⟩
    rw [Int.mul_one]
  done := by
    intro X hP hw hK hc i pins s σ H E I hf st hg
    subst hP hw hK
    obtain ⟨f0, f1, f2, f3, f4, f5⟩ := hf it (by simp)
    exact wpAny_pyNext_long_end (I.ok.hd hc) st (by have : n ≤ i := hg; omega) fun h' eb => ⟨rfl, I.turned (t' := s.toks) (fun b o hb e => eb b o hb e) f0 f1 f3 f4 f5⟩
  self := fun _ _ _ _ _ st h => wpAny_pyIter_longiter st h
variable {X : Cx} {tg : PySem.Expr}
theorem rsize1 (lo hi : Int) : Builtin.Range.rangeSize lo hi 1 = (((hi - lo).toNat : Nat) : Int) := by
  rw [rangeSize_one]
  split <;> omega
theorem range_itL {pins : List (Addr × Obj)} {σ : L2.St} {H : Hp} {s : Shared} {R : It → Hp → Prop} {E : Value → Shared → Prop} {lo hi : Int} {t u v : Tok} {tk : Nat} (I : Inv X pins σ H s)
    (q : R (Itr lo (hi - lo).toNat) H) : wpAny (model X.prog X.w) X.A (pyIter (.ref s.heap.objs.size)) (PIE X pins σ tg R) E { s with heap := s.heap.push { cls := .type "range", data := .fields #[.int lo t, .int hi u, .int 1 v] }, toks := tk } := by
  have I1 : Inv X pins σ H { s with heap := s.heap.push { cls := .type "range", data := .fields #[.int lo t, .int hi u, .int 1 v] }, toks := tk } := I.kept fun b o e => Heap.get?_push_of_some _ e
  have e1 : lo + ((0 : Nat) : Int) * 1 = lo := by simp
  have e2 : (((hi - lo).toNat : Nat) : Int) - ((0 : Nat) : Int) = Builtin.Range.rangeSize lo hi 1 := by rw [rsize1]; omega
  have hf : ∀ b ∈ [(s.heap.push { cls := .type "range", data := .fields #[.int lo t, .int hi u, .int 1 v] }).objs.size], FpOk X pins H b := fun b hb => by
    have e : b = (s.heap.push { cls := .type "range", data := .fields #[.int lo t, .int hi u, .int 1 v] }).objs.size := by simpa using hb
    subst e
    exact I1.fpOk (Nat.le_refl _) (I1.hok.fresh (Nat.le_refl _))
  cases hs : Builtin.Range.small lo hi 1 with
  | true =>
    refine wpAny_pyIter_range (IsRange.new ..) hs ?_
    refine ⟨(s.heap.push { cls := .type "range", data := .fields #[.int lo t, .int hi u, .int 1 v] }).objs.size, [(s.heap.push { cls := .type "range", data := .fields #[.int lo t, .int hi u, .int 1 v] }).objs.size], _, _, H, rfl,
      I1.kept (t' := tk) fun b o e => Heap.get?_push_of_some _ e, turn_range _ lo (hi - lo).toNat, ?_, hf, q⟩
    show IsRangeIter _ _ (lo + ((0 : Nat) : Int) * 1) ((((hi - lo).toNat : Nat) : Int) - ((0 : Nat) : Int)) 1
    rw [e1, e2]
    exact Heap.get?_push_size _ rfl
  | false =>
    refine wpAny_pyIter_longrange (IsRange.new ..) hs ?_
    refine ⟨(s.heap.push { cls := .type "range", data := .fields #[.int lo t, .int hi u, .int 1 v] }).objs.size, [(s.heap.push { cls := .type "range", data := .fields #[.int lo t, .int hi u, .int 1 v] }).objs.size], _, _, H, rfl,
      I1.kept (t' := tk) fun b o e => Heap.get?_push_of_some _ e, turn_long _ lo (hi - lo).toNat, ?_, hf, q⟩
    show IsLongIter _ _ (lo + ((0 : Nat) : Int) * 1) ((((hi - lo).toNat : Nat) : Int) - ((0 : Nat) : Int)) 1
    rw [e1, e2]
    exact Heap.get?_push_size _ rfl
def iRng2L (ta : TA) : TI := fun σ H R => ta σ H fun vs H1 => ∃ i j : Int, vs = [.int i, .int j] ∧ R (Itr i (j - i).toNat) H1
theorem pi_range2L {a b : PySem.Expr} {ta : TA} {p pos : Pos} (hg : Gl X "range") (hm : X.mg "range" = none) (ha : PA X [a, b] ta) (hs : starEach [a, b] X.env = [(false, eval a X.env), (false, eval b X.env)] := by rfl) (hs2 : starEach [b] X.env = [(false, eval b X.env)] := by rfl) :
    PI X tg (.Call (.Name "range" p) [a, b] [] pos) (iRng2L ta) := by
  refine ⟨fun pins s σ H R I h => ?_⟩
  refine Call_ (ld_blt I hg hm boot_range (PyProof.Rows.callWith_type1 (thn (ha.run pos pins s σ H _ I h) fun us s1 ⟨vs, H1, I1, r1, q1⟩ => ?_) (by rw [hs, hs2]) (by rw [hs2]; rfl)))
  obtain ⟨i, j, e, q⟩ := q1
  subst e
  cases r1 with
  | cons r rr =>
    cases rr with
    | cons r' rr =>
      cases rr
      obtain ⟨t, rfl⟩ := r
      obtain ⟨t', rfl⟩ := r'
      exact call_range_2 (range_itL I1 q)
end

/-! ### rows: a list or a tuple -/
def Row (K : PySem.W.Frag) (H : Hp) (a : Addr) (xs : List V) : Prop := SqL K H a xs ∨ SqT K H a xs
theorem sameT {K : PySem.W.Frag} {H H' : Hp} {a : Addr} {xs : List V} (e : Same H H') (h : SqT K H a xs) : SqT K H' a xs := by
  rcases h with (h | ⟨o, h⟩) | h
  · exact .inl (.inl (e _ _ h))
  · exact .inl (.inr ⟨o, e _ _ h⟩)
  · exact .inr h
theorem Row.same {K : PySem.W.Frag} {H H' : Hp} {a : Addr} {xs : List V} (e : Same H H') (h : Row K H a xs) : Row K H' a xs := h.imp e.seq (sameT e)
theorem same_upd {H : Hp} {p : Addr} {o : HO} (h : H p = none) : Same H (upd H p o) := fun b x e => by
  rw [upd_ne (ne_of_none e h)]
  exact e
section
variable {X : Cx} {pos : Pos}
theorem call_lenA : CallR X (.builtin "len") (fun xs H Q => (∃ p ys, xs = [.ref p] ∧ (SqL X.K H p ys ∨ SqT X.K H p ys) ∧ Q (.int ys.length) H) ∨ (∃ z, xs = [.str z] ∧ z.length ≤ sizeLine ∧ Q (.int z.length) H)) := CallR.or call_len_seq call_len_str
def iSeq (K : PySem.W.Frag) (tl : TE) : TI := fun σ H R => iList K tl σ H R ∨ iTup K tl σ H R
theorem pi_seq {tg l : PySem.Expr} {tl : TE} (hl : PE X l tl) : PI X tg l (iSeq X.K tl) := pi_or (pi_list hl) (pi_tup hl)
def gSeq (K : PySem.W.Frag) (n : Nat) (t : TGs) : TG := fun v σ H Q => gTup K n t v σ H Q ∨ gUnl K n t v σ H Q
theorem pg_seq {es : List PySem.Expr} {k : Nat} {t : TGs} {n : Nat} (hc : X.calm = true) (h : PGs X es t)
    (hn : (assignEach es X.env).length = n := by rfl) (hst : (assignEach es X.env).findIdx? (·.1) = none := by rfl) : PG X (.Tuple es k pos) (gSeq X.K n t) := pg_or (pg_tup hc h hn hst) (pg_unl hc h hn hst)
end
theorem gSeq.row {K : PySem.W.Frag} {n : Nat} {t : TGs} {a : Addr} {xs : List V} {σ : L2.St} {H : Hp} {Q : L2.St → Hp → Prop} (h : Row K H a xs) (hl : xs.length = n) (q : t xs σ H Q) : gSeq K n t (.ref a) σ H Q := by
  rcases h with h | h
  · exact .inr ⟨a, xs, rfl, h, hl, q⟩
  · exact .inl ⟨a, xs, rfl, h, hl, q⟩
/-- for x in (a row that stands in slot i) -/
theorem for_row {K : PySem.W.Frag} {a : Addr} {xs : List V} {g : TG} {tb : TS} {D : Ends} {σ : L2.St} {Hb H : Hp} {j : Nat} (hv : σ[j]? = some (some (.ref a))) (hr : Row K Hb a xs) (hb : Same Hb H) (Pv : Nat → L2.St → Hp → Prop) (h0 : Pv 0 σ H) (hl : ∀ i σ H', i ≤ xs.length → Pv i σ H' → Same Hb H')
    (hs : ∀ i x σ H, xs[i]? = some x → Pv i σ H → g x σ H fun σ2 H2 => tb { D with nx := Pv (i + 1), ct := Pv (i + 1), bk := D.nx } σ2 H2) (hd : ∀ σ H, Pv xs.length σ H → D.nx σ H) :
    tFor (iSeq K (tVar j)) g tb D σ H := by
  rcases hr with hr | hr
  · exact .inl ⟨_, hv, a, rfl, ⟨_, hb.seq hr⟩, for_list (K := K) (a := a) (xs := xs) Pv h0 (fun i σ H' hi p => (hl i σ H' hi p).seq hr) hs hd⟩
  · exact .inr ⟨_, hv, a, rfl, ⟨_, sameT hb hr⟩, for_tup (K := K) (a := a) (xs := xs) Pv h0 (fun i σ H' hi p => sameT (hl i σ H' hi p) hr) hs hd⟩
/-! ### the same rules with the written part named, for use within comprehensions -/
section
variable {X : Cx} {pos : Pos} (K : PySem.W.Frag)
def rLenA (K : PySem.W.Frag) : List V → Hp → VK → Prop := fun xs H Q => (∃ p ys, xs = [.ref p] ∧ (SqL K H p ys ∨ SqT K H p ys) ∧ Q (.int ys.length) H) ∨ (∃ z, xs = [.str z] ∧ z.length ≤ sizeLine ∧ Q (.int z.length) H)
theorem ix_seqK (hK : X.K = K := by rfl) : IxR X (rIx K) := hK ▸ ix_seq
theorem call_lenK (hK : X.K = K := by rfl) : CallR X (.builtin "len") (rLenA K) := hK ▸ call_lenA
theorem pg_tupK {es : List PySem.Expr} {k : Nat} {t : TGs} {n : Nat} (hc : X.calm = true) (h : PGs X es t)
    (hn : (assignEach es X.env).length = n := by rfl) (hst : (assignEach es X.env).findIdx? (·.1) = none := by rfl) (hK : X.K = K := by rfl) : PG X (.Tuple es k pos) (gTup K n t) := hK ▸ pg_tup hc h hn hst
theorem pg_seqK {es : List PySem.Expr} {k : Nat} {t : TGs} {n : Nat} (hc : X.calm = true) (h : PGs X es t)
    (hn : (assignEach es X.env).length = n := by rfl) (hst : (assignEach es X.env).findIdx? (·.1) = none := by rfl) (hK : X.K = K := by rfl) : PG X (.Tuple es k pos) (gSeq K n t) := hK ▸ pg_seq hc h hn hst
end

/-! ### loops and comprehensions, folded -/
def ForGo (J : It) (g : TG) (tb : TS) (D : Ends) (σ : L2.St) (H : Hp) : Prop := ∃ W : Nat → Nat → L2.St → Hp → Prop, (∃ m, W 0 m σ H) ∧ ∀ i m σ H, W i m σ H →
  (J.stop i H ∧ D.nx σ H) ∨ (J.go i H ∧ ∃ N : L2.St → Hp → Prop, (∀ σ' H', N σ' H' → ∃ m', m' < m ∧ W (i + 1) m' σ' H') ∧ ∀ x H', J.yld i H x H' → g x σ H' fun σ2 H2 => tb { D with nx := N, ct := N, bk := D.nx } σ2 H2)
def LcGo (J : It) (g : TG) (tt : TT) (te : TE) (vs : List Nat) (σ : L2.St) (H1 : Hp) (D : Addr) (Q : VK) : Prop := ∃ W : Nat → Nat → Hp → Prop, (∃ m, W 0 m (upd H1 D (.lst []))) ∧ ∀ i m H, W i m H →
  (J.stop i H ∧ Q (.ref D) H) ∨ (J.go i H ∧ ∃ Nx : Hp → Prop, (∀ H', Nx H' → ∃ m', m' < m ∧ W (i + 1) m' H') ∧ ∀ x H', J.yld i H x H' → g x (wipe σ vs) H' fun σ2 H2 => wipe σ2 vs = wipe σ vs ∧ tt σ2 H2 fun b H3 =>
    if b = true then te σ2 H3 fun y H4 => ∃ acc, H4 D = some (.lst acc) ∧ acc.length < sizeLine ∧ Nx (upd H4 D (.lst (acc ++ [y]))) else Nx H3)
section
variable {K : PySem.W.Frag} {ta : TA} {tl : TE} {g : TG} {tb : TS} {D : Ends} {σ : L2.St} {H : Hp} {tt : TT} {te : TE} {vs : List Nat} {Q : VK}
theorem fr_rng1 (h : ta σ H fun us H1 => ∃ j : Int, us = [.int j] ∧ -(2 ^ 62) ≤ j ∧ j < 2 ^ 62 ∧ ForGo (Itr 0 j.toNat) g tb D σ H1) : tFor (iRng1 ta) g tb D σ H := h
theorem fr_rng2 (h : ta σ H fun us H1 => ∃ i j : Int, us = [.int i, .int j] ∧ (-(2 ^ 62) ≤ i ∧ i < 2 ^ 62 ∧ -(2 ^ 62) ≤ j ∧ j < 2 ^ 62) ∧ ForGo (Itr i (j - i).toNat) g tb D σ H1) : tFor (iRng2 ta) g tb D σ H := h
theorem fr_rng2L (h : ta σ H fun us H1 => ∃ i j : Int, us = [.int i, .int j] ∧ ForGo (Itr i (j - i).toNat) g tb D σ H1) : tFor (iRng2L ta) g tb D σ H := h
theorem fr_list (h : tl σ H fun x H1 => ∃ a, x = .ref a ∧ (∃ xs, SqL K H1 a xs) ∧ ForGo (Itl K a) g tb D σ H1) : tFor (iList K tl) g tb D σ H := h
theorem fr_str (h : tl σ H fun v H1 => ∃ x, v = .str x ∧ ForGo (Its x) g tb D σ H1) : tFor (iStr tl) g tb D σ H := h
theorem lc_rng1 (h : ta σ H fun us H1 => ∃ j : Int, us = [.int j] ∧ -(2 ^ 62) ≤ j ∧ j < 2 ^ 62 ∧ ∀ D, H1 D = none → LcGo (Itr 0 j.toNat) g tt te vs σ H1 D Q) : tLc (iRng1 ta) g tt te vs σ H Q := h
theorem lc_rng2 (h : ta σ H fun us H1 => ∃ i j : Int, us = [.int i, .int j] ∧ (-(2 ^ 62) ≤ i ∧ i < 2 ^ 62 ∧ -(2 ^ 62) ≤ j ∧ j < 2 ^ 62) ∧ ∀ D, H1 D = none → LcGo (Itr i (j - i).toNat) g tt te vs σ H1 D Q) : tLc (iRng2 ta) g tt te vs σ H Q := h
theorem lc_rng2L (h : ta σ H fun us H1 => ∃ i j : Int, us = [.int i, .int j] ∧ ∀ D, H1 D = none → LcGo (Itr i (j - i).toNat) g tt te vs σ H1 D Q) : tLc (iRng2L ta) g tt te vs σ H Q := h
theorem lc_lst (h : tl σ H fun x H1 => ∃ a, x = .ref a ∧ (∃ xs, SqL K H1 a xs) ∧ ∀ D, H1 D = none → LcGo (Itl K a) g tt te vs σ H1 D Q) : tLc (iList K tl) g tt te vs σ H Q := h
theorem lc_str (h : tl σ H fun v H1 => ∃ x, v = .str x ∧ ∀ D, H1 D = none → LcGo (Its x) g tt te vs σ H1 D Q) : tLc (iStr tl) g tt te vs σ H Q := h

theorem ForGo.range {lo : Int} {n : Nat} (Pv : Nat → L2.St → Hp → Prop) (h0 : Pv 0 σ H)
    (hs : ∀ i σ H, i < n → Pv i σ H → g (.int (lo + i)) σ H fun σ2 H2 => tb { D with nx := Pv (i + 1), ct := Pv (i + 1), bk := D.nx } σ2 H2) (hd : ∀ σ H, Pv n σ H → D.nx σ H) : ForGo (Itr lo n) g tb D σ H := for_range Pv h0 hs hd
theorem ForGo.list {a : Addr} {xs : List V} (Pv : Nat → L2.St → Hp → Prop) (h0 : Pv 0 σ H) (hl : ∀ i σ H, i ≤ xs.length → Pv i σ H → SqL K H a xs)
    (hs : ∀ i x σ H, xs[i]? = some x → Pv i σ H → g x σ H fun σ2 H2 => tb { D with nx := Pv (i + 1), ct := Pv (i + 1), bk := D.nx } σ2 H2) (hd : ∀ σ H, Pv xs.length σ H → D.nx σ H) : ForGo (Itl K a) g tb D σ H := for_list Pv h0 hl hs hd
theorem LcGo.range {lo : Int} {n : Nat} {D : Addr} (Pv : Nat → Hp → Prop) (h0 : Pv 0 (upd H D (.lst [])))
    (hs : ∀ i H, i < n → Pv i H → g (.int (lo + i)) (wipe σ vs) H fun σ2 H2 => wipe σ2 vs = wipe σ vs ∧ tt σ2 H2 fun b H3 =>
      if b = true then te σ2 H3 fun y H4 => ∃ acc, H4 D = some (.lst acc) ∧ acc.length < sizeLine ∧ Pv (i + 1) (upd H4 D (.lst (acc ++ [y]))) else Pv (i + 1) H3) (hd : ∀ H, Pv n H → Q (.ref D) H) : LcGo (Itr lo n) g tt te vs σ H D Q := L2.lc_range (lo := lo) (n := n) Pv h0 hs hd
theorem LcGo.list {a D : Addr} {xs : List V} (Pv : Nat → Hp → Prop) (h0 : Pv 0 (upd H D (.lst []))) (hl : ∀ i H, i ≤ xs.length → Pv i H → SqL K H a xs)
    (hs : ∀ i x H, xs[i]? = some x → Pv i H → g x (wipe σ vs) H fun σ2 H2 => wipe σ2 vs = wipe σ vs ∧ tt σ2 H2 fun b H3 =>
      if b = true then te σ2 H3 fun y H4 => ∃ acc, H4 D = some (.lst acc) ∧ acc.length < sizeLine ∧ Pv (i + 1) (upd H4 D (.lst (acc ++ [y]))) else Pv (i + 1) H3) (hd : ∀ H, Pv xs.length H → Q (.ref D) H) : LcGo (Itl K a) g tt te vs σ H D Q := L2.lc_list Pv h0 hl hs hd
theorem LcGo.str {z : Str} {D : Addr} (Pv : Nat → Hp → Prop) (h0 : Pv 0 (upd H D (.lst [])))
    (hs : ∀ i c H, z.cps[i]? = some c → Pv i H → g (.str ⟨#[c]⟩) (wipe σ vs) H fun σ2 H2 => wipe σ2 vs = wipe σ vs ∧ tt σ2 H2 fun b H3 =>
      if b = true then te σ2 H3 fun y H4 => ∃ acc, H4 D = some (.lst acc) ∧ acc.length < sizeLine ∧ Pv (i + 1) (upd H4 D (.lst (acc ++ [y]))) else Pv (i + 1) H3) (hd : ∀ H, Pv z.cps.size H → Q (.ref D) H) : LcGo (Its z) g tt te vs σ H D Q := by
  refine ⟨fun i m H => m = z.cps.size - i ∧ i ≤ z.cps.size ∧ Pv i H, ⟨z.cps.size, by simp, Nat.zero_le _, h0⟩, ?_⟩
  rintro i m H ⟨rfl, hi, p⟩
  by_cases hlt : i < z.cps.size
  · refine .inr ⟨hlt, Pv (i + 1), fun H' p' => ⟨z.cps.size - (i + 1), by omega, rfl, hlt, p'⟩, fun x H' y => ?_⟩
    obtain ⟨e, c, hc, rfl⟩ := y
    subst e
    exact hs i c _ hc p
  · have e : i = z.cps.size := by omega
    subst e
    exact .inl ⟨Nat.le_refl _, hd H p⟩
end
end BK

namespace BK
open PySem PySem.Spec PyProof.Rows L2 Builtin Builtin.Str

/-! ### texts as lists of codes -/
def tx (w : List Nat) : Str := ⟨w.toArray⟩
theorem tx_cps (w : List Nat) : (tx w).cps.toList = w := by unfold tx; simp
theorem tx_len (w : List Nat) : (tx w).length = w.length := by unfold tx; simp [Str.length]
theorem tx_inj {a b : List Nat} (h : tx a = tx b) : a = b := by
  have := congrArg (fun z : Str => z.cps.toList) h
  simpa [tx_cps] using this
theorem tx_of (z : Str) : tx z.cps.toList = z := Str.ext' (by unfold tx; simp)
theorem tx_ext {z : Str} {w : List Nat} (h : z.cps.toList = w) : z = tx w := by rw [← h, tx_of]
theorem tx_app (a b : List Nat) : tx a ++ tx b = tx (a ++ b) := tx_ext (by rw [Str.cps_append, Array.toList_append, tx_cps, tx_cps])
theorem tx_eq (a b : List Nat) : (V.str (tx a) = V.str (tx b)) ↔ a = b := ⟨fun h => tx_inj (V.str.inj h), fun h => by rw [h]⟩
theorem tx_one (c : Nat) : tx [c] = ⟨#[c]⟩ := rfl
theorem tx_nil : tx [] = "" := rfl

theorem cut_nn (w : List Nat) (i j : Nat) : cutS (tx w) (some (i : Int)) (some (j : Int)) = tx ((w.drop i).take (j - i)) := by
  refine tx_ext ?_
  unfold cutS
  rw [HT.sIx_nat, HT.sIx_nat, tx_cps, tx_len, List.toList_toArray]
  by_cases hi : i ≤ w.length
  · rw [Nat.min_eq_left hi]
    by_cases hj : j ≤ w.length
    · rw [Nat.min_eq_left hj]
    · rw [Nat.min_eq_right (by omega), List.take_of_length_le (by rw [List.length_drop]; omega), List.take_of_length_le (by rw [List.length_drop]; omega)]
  · rw [Nat.min_eq_right (show w.length ≤ i by omega), List.drop_length, List.drop_eq_nil_of_le (by omega), List.take_nil, List.take_nil]
theorem cut_n_ (w : List Nat) (i : Nat) : cutS (tx w) (some (i : Int)) none = tx (w.drop i) := by
  refine tx_ext ?_
  unfold cutS
  rw [HT.sIx_nat, HT.sIx_none, tx_cps, tx_len, List.toList_toArray]
  by_cases hi : i ≤ w.length
  · rw [Nat.min_eq_left hi, List.take_of_length_le (by rw [List.length_drop]; omega)]
  · rw [Nat.min_eq_right (by omega), List.drop_length, List.drop_eq_nil_of_le (by omega), List.take_nil]
theorem cut__n (w : List Nat) (j : Nat) : cutS (tx w) none (some (j : Int)) = tx (w.take j) := by
  refine tx_ext ?_
  unfold cutS
  rw [HT.sIx_nat, HT.sIx_none, tx_cps, tx_len, List.toList_toArray, List.drop_zero, Nat.sub_zero]
  by_cases hj : j ≤ w.length
  · rw [Nat.min_eq_left hj]
  · rw [Nat.min_eq_right (by omega), List.take_of_length_le (Nat.le_refl _), List.take_of_length_le (by omega)]

theorem foldl_app (l : List (List Nat)) : ∀ acc : Array Nat, ((l.map List.toArray).foldl (· ++ ·) acc).toList = acc.toList ++ l.flatten := by
  induction l with
  | nil => intro acc; simp
  | cons a l ih =>
    intro acc
    rw [List.map_cons, List.foldl_cons, ih, Array.toList_append, List.toList_toArray, List.flatten_cons, List.append_assoc]
theorem mul_tx (w : List Nat) (n : Nat) : Txt.mul (tx w) (n : Int) = tx (List.replicate n w).flatten := by
  refine tx_ext ?_
  unfold Txt.mul
  split
  · have : n = 0 := by omega
    subst this
    rfl
  · split
    · rename_i h1 h2
      rw [Bool.or_eq_true] at h2
      rcases h2 with h2 | h2
      · have : n = 1 := by have := eq_of_beq h2; omega
        subst this
        rw [tx_cps]
        simp
      · have : w = [] := by
          have := eq_of_beq h2
          rw [tx_len] at this
          exact List.eq_nil_of_length_eq_zero this
        subst this
        rw [tx_cps]
        simp
    · rw [Int.toNat_natCast]
      have e : List.replicate n (tx w).cps = (List.replicate n w).map List.toArray := by rw [List.map_replicate]; rfl
      show (List.foldl (· ++ ·) #[] (List.replicate n (tx w).cps)).toList = _
      rw [e, foldl_app]
      simp
theorem mul_ok {w : List Nat} {n : Nat} (L N : Nat) (h : w.length ≤ L) (hn : n ≤ N) (hN : N ≤ 16777216) (hL : L * N ≤ 16777216) : MulOk (tx w) (n : Int) :=
  mulOk_of L N (by rw [tx_len]; exact h) (by omega) (by omega) hN hL

theorem join_go : ∀ (ws : List (List Nat)) (acc : Array Nat), ((ws.map tx).foldl (fun acc p => acc ++ (tx []).cps ++ p.cps) acc).toList = acc.toList ++ ws.flatten
  | [], acc => by simp
  | a :: l, acc => by
    rw [List.map_cons, List.foldl_cons, join_go l, Array.toList_append, Array.toList_append, tx_cps, List.flatten_cons, tx_cps, List.append_nil, List.append_assoc]
theorem join_tx (ws : List (List Nat)) : Txt.join (tx []) (ws.map tx) = tx ws.flatten := by
  refine tx_ext ?_
  show (glued (tx []) (ws.map tx)).cps.toList = _
  unfold glued
  cases ws with
  | nil => rfl
  | cons a l =>
    show (((l.map tx)).foldl (fun acc p => acc ++ (tx []).cps ++ p.cps) (tx a).cps).toList = _
    rw [join_go, tx_cps, List.flatten_cons]

/-! ### how many of one sign -/
theorem sub_one (w : List Nat) (c i : Nat) : (i + (tx [c]).length ≤ (tx w).length ∧ subAt (tx w) (tx [c]) i = true) ↔ w[i]? = some c := by
  have h := StrLaws.subAt_one (tx w) c i
  rw [tx_cps] at h
  exact h
theorem occ_run (w : List Nat) (c : Nat) : ∀ (n i : Nat) (st : Array Nat × Nat), st.2 ≤ i → st.1.size ≤ i → i ≤ w.length →
    (forIn (List.range' i n) st (StrLaws.occBody (tx w) (tx [c]) (tx w).length ((tx w).length + 1))).run.1.size = st.1.size + ((w.drop i).take n).count c
  | 0, i, st, h1, h2, h3 => by simp
  | n + 1, i, st, h1, h2, h3 => by
    rw [List.range'_succ, List.forIn_cons]
    unfold StrLaws.occBody
    have hs := sub_one w c i
    by_cases hc : w[i]? = some c
    · have hq := hs.mpr hc
      have hlt : i < w.length := (List.getElem?_eq_some_iff.mp hc).1
      rw [if_pos ⟨⟨⟨by rw [tx_len]; omega, h1⟩, hq.1⟩, hq.2⟩]
      have ih := occ_run w c n (i + 1) (st.1.push i, i + (tx [c]).length) (by rw [tx_len]; exact Nat.le_refl _) (by rw [Array.size_push]; omega) hlt
      refine ih.trans ?_
      rw [Array.size_push, List.drop_eq_getElem_cons hlt, List.take_succ_cons, List.count_cons]
      have e : w[i] = c := (List.getElem?_eq_some_iff.mp hc).2
      rw [e, beq_self_eq_true, if_pos rfl]
      omega
    · rw [if_neg (fun z => hc (hs.mp ⟨z.1.2, z.2⟩))]
      by_cases hlt : i < w.length
      · have ih := occ_run w c n (i + 1) (st.1, st.2) (by show st.2 ≤ i + 1; omega) (by show st.1.size ≤ i + 1; omega) hlt
        refine ih.trans ?_
        rw [List.drop_eq_getElem_cons hlt, List.take_succ_cons, List.count_cons]
        have e : w[i] ≠ c := fun z => hc (by rw [List.getElem?_eq_getElem hlt, z])
        rw [beq_eq_false_iff_ne.mpr e, if_neg Bool.false_ne_true, Nat.add_zero]
        all_goals rfl
      · have e0 : ∀ (m j : Nat) (st : Array Nat × Nat), w.length ≤ j → (forIn (List.range' j m) st (StrLaws.occBody (tx w) (tx [c]) (tx w).length ((tx w).length + 1))).run.1.size = st.1.size := by
          intro m
          induction m with
          | zero => intro j st _; rfl
          | succ m ih =>
            intro j st hj
            rw [List.range'_succ, List.forIn_cons]
            unfold StrLaws.occBody
            rw [if_neg (fun z => by have := (sub_one w c j).mp ⟨z.1.2, z.2⟩; rw [List.getElem?_eq_none hj] at this; cases this)]
            exact ih (j + 1) (st.1, st.2) (by omega)
        refine (e0 n (i + 1) (st.1, st.2) (by omega)).trans ?_
        rw [List.drop_eq_nil_of_le (by omega), List.take_nil, List.count_nil, Nat.add_zero]
theorem count_tx (w : List Nat) (c : Nat) : Txt.count (tx w) (tx [c]) = (w.count c : Nat) := by
  unfold Txt.count
  rw [StrLaws.occ_eq, Array.length_toList]
  have h := occ_run w c ((tx w).length + 1 - 0) 0 (#[], 0) (Nat.le_refl _) (Nat.le_refl _) (Nat.zero_le _)
  rw [h, List.drop_zero, List.take_of_length_le (by rw [tx_len]; omega)]
  simp

/-! ### strip of signs -/
theorem takeWhile_all {p : Nat → Bool} : ∀ {l : List Nat}, l.all p = true → l.takeWhile p = l
  | [], _ => rfl
  | a :: l, h => by
    rw [List.all_cons, Bool.and_eq_true] at h
    rw [List.takeWhile_cons, if_pos h.1, takeWhile_all h.2]
theorem takeWhile_len {p : Nat → Bool} : ∀ (l : List Nat), l.all p = false → ∃ x, l[(l.takeWhile p).length]? = some x ∧ p x = false
  | [], h => by simp at h
  | a :: l, h => by
    rw [List.takeWhile_cons]
    by_cases ha : p a = true
    · rw [List.all_cons, ha, Bool.true_and] at h
      rw [if_pos ha]
      obtain ⟨x, h1, h2⟩ := takeWhile_len l h
      exact ⟨x, by rw [List.length_cons, List.getElem?_cons_succ]; exact h1, h2⟩
    · rw [if_neg ha]
      exact ⟨a, rfl, Bool.eq_false_iff.mpr ha⟩
theorem strip_iff (w y : List Nat) : (Txt.stripChars (tx w) (tx y) = tx []) ↔ w.all (y.contains ·) = true := by
  have hp : ∀ c, (tx y).cps.contains c = y.contains c := fun c => by unfold tx; simp
  have hp' : (tx y).cps.contains = fun c => y.contains c := funext hp
  unfold Txt.stripChars Txt.stripBy
  rw [hp']
  have hlo : stripLo (fun c => y.contains c) true (tx w) = (w.takeWhile fun c => y.contains c).length := by
    unfold stripLo
    rw [if_pos rfl, tx_cps]
  cases hall : w.all (y.contains ·) with
  | true =>
    have e := takeWhile_all (p := fun c => y.contains c) hall
    rw [e] at hlo
    refine ⟨fun _ => rfl, fun _ => ?_⟩
    by_cases hs : stripSame (fun c => y.contains c) true true (tx w) = true
    · rw [if_pos hs]
      unfold stripSame at hs
      rw [Bool.and_eq_true] at hs
      rw [hlo] at hs
      have : w.length = 0 := eq_of_beq hs.1
      rw [List.eq_nil_of_length_eq_zero this]
    · rw [if_neg hs]
      refine tx_ext ?_
      unfold stripped
      rw [hlo, StrLaws.strSub_toList, tx_cps, List.drop_length, List.take_nil]
  | false =>
    refine ⟨fun h => ?_, fun h => by cases h⟩
    exfalso
    obtain ⟨x, hx, hpx⟩ := takeWhile_len (p := fun c => y.contains c) w hall
    by_cases hs : stripSame (fun c => y.contains c) true true (tx w) = true
    · rw [if_pos hs] at h
      have : w = [] := tx_inj h
      subst this
      simp at hall
    · rw [if_neg hs] at h
      have h2 := congrArg (fun z : Str => z.cps.toList) h
      unfold stripped at h2
      simp only [StrLaws.strSub_toList, tx_cps, hlo] at h2
      have hlt : (w.takeWhile fun c => y.contains c).length < w.length := (List.getElem?_eq_some_iff.mp hx).1
      -- the right end lies behind x
      have hhi : (w.takeWhile fun c => y.contains c).length < stripHi (fun c => y.contains c) true (tx w) (w.takeWhile fun c => y.contains c).length := by
        unfold stripHi
        rw [if_pos rfl, tx_cps, tx_len]
        have hne : ((w.drop (w.takeWhile fun c => y.contains c).length).reverse).all (fun c => y.contains c) = false := by
          rw [List.all_reverse, List.drop_eq_getElem_cons hlt, List.all_cons]
          have e : w[(w.takeWhile fun c => y.contains c).length] = x := (List.getElem?_eq_some_iff.mp hx).2
          rw [e, hpx, Bool.false_and]
        obtain ⟨z, hz, _⟩ := takeWhile_len (p := fun c => y.contains c) _ hne
        have hl2 := (List.getElem?_eq_some_iff.mp hz).1
        rw [List.length_reverse, List.length_drop] at hl2
        omega
      have h3 := congrArg List.length h2
      rw [List.length_take, List.length_drop] at h3
      have hz : ([] : List Nat).length = 0 := rfl
      have hk : 0 < stripHi (fun c => y.contains c) true (tx w) (w.takeWhile fun c => y.contains c).length - (w.takeWhile fun c => y.contains c).length := by omega
      have h4 : (tx ([] : List Nat)).cps.toList.length = 0 := rfl
      have h5 : min (stripHi (fun c => y.contains c) true (tx w) (w.takeWhile fun c => y.contains c).length - (w.takeWhile fun c => y.contains c).length) (w.length - (w.takeWhile fun c => y.contains c).length) = 0 := h3
      omega
end BK

namespace BK
open PySem PySem.Spec PyProof.Rows L2

/-! ### a word again and again -/
def rep (w : List Nat) (n : Nat) : List Nat := (List.replicate n w).flatten
theorem rep_zero (w : List Nat) : rep w 0 = [] := rfl
theorem rep_succ (w : List Nat) (n : Nat) : rep w (n + 1) = w ++ rep w n := by unfold rep; rw [List.replicate_succ, List.flatten_cons]
theorem rep_len (w : List Nat) : ∀ n, (rep w n).length = n * w.length
  | 0 => by rw [rep_zero]; simp
  | n + 1 => by rw [rep_succ, List.length_append, rep_len w n, Nat.add_mul, Nat.one_mul, Nat.add_comm]
theorem rep_add (w : List Nat) (m : Nat) : ∀ n, rep w (n + m) = rep w n ++ rep w m
  | 0 => by rw [Nat.zero_add, rep_zero, List.nil_append]
  | n + 1 => by rw [show n + 1 + m = (n + m) + 1 by omega, rep_succ, rep_add w m n, rep_succ, List.append_assoc]
theorem rep_get (w : List Nat) : ∀ (n i : Nat), i < n * w.length → (rep w n)[i]? = w[i % w.length]?
  | 0, i, h => by simp at h
  | n + 1, i, h => by
    rw [rep_succ]
    by_cases hi : i < w.length
    · rw [List.getElem?_append_left hi, Nat.mod_eq_of_lt hi]
    · have hn : w.length ≤ i := by omega
      have h2 : i - w.length < n * w.length := by rw [Nat.add_mul, Nat.one_mul] at h; omega
      rw [List.getElem?_append_right hn, rep_get w n _ h2, Nat.mod_eq_sub_mod hn]
theorem rep_count (w : List Nat) (c : Nat) : ∀ n, (rep w n).count c = n * w.count c
  | 0 => by rw [rep_zero]; simp
  | n + 1 => by rw [rep_succ, List.count_append, rep_count w c n, Nat.add_mul, Nat.one_mul, Nat.add_comm]
theorem rep_take {w : List Nat} (hw : w ≠ []) {n m : Nat} (h : m ≤ n * w.length) : (rep w n).take m = rep w (m / w.length) ++ w.take (m % w.length) := by
  have hp : 0 < w.length := List.length_pos_iff.mpr hw
  have hq : m / w.length ≤ n := by
    have := Nat.div_le_div_right (c := w.length) h
    rwa [Nat.mul_div_cancel _ hp] at this
  have e : n = m / w.length + (n - m / w.length) := by omega
  rw [e, rep_add]
  have hm : m = m / w.length * w.length + m % w.length := by rw [Nat.mul_comm]; exact (Nat.div_add_mod m w.length).symm
  rw [List.take_append, rep_len]
  have h1 : List.take m (rep w (m / w.length)) = rep w (m / w.length) := List.take_of_length_le (by rw [rep_len]; exact Nat.div_mul_le_self _ _)
  rw [h1]
  have h2 : m - m / w.length * w.length = m % w.length := by
    omega
  rw [h2]
  congr 1
  have hlt := Nat.mod_lt m hp
  cases hk : n - m / w.length with
  | zero =>
    have h3 : m ≤ m / w.length * w.length := by
      have e3 : n = m / w.length := by omega
      have h4 := h
      rw [e3] at h4
      exact h4
    have h5 : m % w.length = 0 := by omega
    rw [h5, rep_zero, List.take_zero, List.take_zero]
  | succ k => rw [rep_succ, List.take_append_of_le_length (by omega)]
theorem rep_take_count {w : List Nat} (hw : w ≠ []) {n m : Nat} (c : Nat) (h : m ≤ n * w.length) : ((rep w n).take m).count c = w.count c * (m / w.length) + (w.take (m % w.length)).count c := by
  rw [rep_take hw h, List.count_append, rep_count, Nat.mul_comm]

/-! ### texts by pieces -/
abbrev Pcs := List (List Nat × Nat)
def spell (ps : Pcs) : List Nat := (ps.map fun p => rep p.1 p.2).flatten
theorem spell_nil : spell [] = [] := rfl
theorem spell_cons (p : List Nat × Nat) (ps : Pcs) : spell (p :: ps) = rep p.1 p.2 ++ spell ps := by unfold spell; rw [List.map_cons, List.flatten_cons]
theorem spell_app (ps qs : Pcs) : spell (ps ++ qs) = spell ps ++ spell qs := by unfold spell; rw [List.map_append, List.flatten_append]
def size (ps : Pcs) : Nat := (ps.map fun p => p.1.length * p.2).sum
theorem spell_len (ps : Pcs) : (spell ps).length = size ps := by
  induction ps with
  | nil => rfl
  | cons p ps ih => rw [spell_cons, List.length_append, ih, rep_len]; unfold size; rw [List.map_cons, List.sum_cons, Nat.mul_comm]
theorem size_cons (p : List Nat × Nat) (ps : Pcs) : size (p :: ps) = p.1.length * p.2 + size ps := rfl
theorem size_take_succ (ps : Pcs) : ∀ {i : Nat} {p}, ps[i]? = some p → size (ps.take (i + 1)) = size (ps.take i) + p.1.length * p.2 := by
  induction ps with
  | nil => intro i p h; simp at h
  | cons q ps ih =>
    intro i p h
    cases i with
    | zero =>
      have e : q = p := by simpa using h
      subst e
      simp [size]
    | succ i =>
      have := ih (i := i) (p := p) (by simpa using h)
      rw [List.take_succ_cons, size_cons, this, List.take_succ_cons, size_cons, Nat.add_assoc]
theorem size_take_le (ps : Pcs) (i : Nat) : size (ps.take i) ≤ size ps := by
  induction ps generalizing i with
  | nil => simp
  | cons q ps ih =>
    cases i with
    | zero => simp [size]
    | succ i => rw [List.take_succ_cons, size_cons, size_cons]; have := ih i; omega

/-- small letters -/
def alpha : List Nat := [97, 98, 99, 100, 101, 102, 103, 104, 105, 106, 107, 108, 109, 110, 111, 112, 113, 114, 115, 116, 117, 118, 119, 120, 121, 122]
theorem tx_alpha : tx alpha = ("abcdefghijklmnopqrstuvwxyz" : Str) := by decide +kernel
def Plain (w : List Nat) : Prop := w.all (alpha.contains ·) = true
def Word (w : List Nat) : Prop := Plain w ∧ w ≠ [] ∧ w.length ≤ 60
structure Good (ps : Pcs) : Prop where
  few : ps.length ≤ 40
  ok : ∀ p ∈ ps, Word p.1 ∧ 1 ≤ p.2
  all : size ps ≤ 10 ^ 30

/-! ### things -/
inductive Dt where
  | non | bl (b : Bool) | int (i : Int) | str (w : List Nat) | lst (xs : List Dt) | tup (xs : List Dt) | dic
mutual
def At (K : PySem.W.Frag) (H : Hp) : V → Dt → Prop
  | v, .non => v = .non
  | v, .bl b => v = .bl b
  | v, .int i => v = .int i
  | v, .str w => v = .str (tx w) ∧ w.length ≤ 1000000
  | v, .lst ds => ∃ a xs, v = .ref a ∧ SqL K H a xs ∧ Ats K H xs ds
  | v, .tup ds => ∃ a xs, v = .ref a ∧ SqT K H a xs ∧ Ats K H xs ds
  | v, .dic => ∃ a, v = .ref a ∧ H a = some (.dK [])
def Ats (K : PySem.W.Frag) (H : Hp) : List V → List Dt → Prop
  | vs, [] => vs = []
  | vs, d :: ds => ∃ v us, vs = v :: us ∧ At K H v d ∧ Ats K H us ds
end
section
variable {K : PySem.W.Frag} {H H' : Hp}
mutual
theorem At.same (e : Same H H') : ∀ (d : Dt) (v : V), At K H v d → At K H' v d
  | .non, v, h => by unfold At at h ⊢; exact h
  | .bl _, v, h => by unfold At at h ⊢; exact h
  | .int _, v, h => by unfold At at h ⊢; exact h
  | .str _, v, h => by unfold At at h ⊢; exact h
  | .lst ds, v, h => by
    unfold At at h ⊢
    obtain ⟨a, xs, rfl, h1, h2⟩ := h
    exact ⟨a, xs, rfl, e.seq h1, Ats.same e ds xs h2⟩
  | .tup ds, v, h => by
    unfold At at h ⊢
    obtain ⟨a, xs, rfl, h1, h2⟩ := h
    exact ⟨a, xs, rfl, sameT e h1, Ats.same e ds xs h2⟩
  | .dic, v, h => by
    unfold At at h ⊢
    obtain ⟨a, rfl, h1⟩ := h
    exact ⟨a, rfl, e _ _ h1⟩
theorem Ats.same (e : Same H H') : ∀ (ds : List Dt) (vs : List V), Ats K H vs ds → Ats K H' vs ds
  | [], vs, h => by unfold Ats at h ⊢; exact h
  | d :: ds, vs, h => by
    unfold Ats at h ⊢
    obtain ⟨v, us, rfl, h1, h2⟩ := h
    exact ⟨v, us, rfl, At.same e d v h1, Ats.same e ds us h2⟩
end
theorem Ats.len : ∀ {ds : List Dt} {vs : List V}, Ats K H vs ds → vs.length = ds.length
  | [], vs, h => by unfold Ats at h; subst h; rfl
  | d :: ds, vs, h => by
    unfold Ats at h
    obtain ⟨v, us, rfl, _, h2⟩ := h
    rw [List.length_cons, List.length_cons, h2.len]
theorem Ats.get : ∀ {ds : List Dt} {vs : List V} {i : Nat} {d : Dt}, Ats K H vs ds → ds[i]? = some d → ∃ v, vs[i]? = some v ∧ At K H v d
  | [], vs, i, d, h, e => by simp at e
  | c :: ds, vs, i, d, h, e => by
    unfold Ats at h
    obtain ⟨v, us, rfl, h1, h2⟩ := h
    cases i with
    | zero =>
      have : c = d := by simpa using e
      subst this
      exact ⟨v, rfl, h1⟩
    | succ i => exact h2.get (by simpa using e)
end
/-- the type's name -/
def Dt.ty : Dt → String
  | .non => "NoneType"
  | .bl _ => "bool"
  | .int _ => "int"
  | .str _ => "str"
  | .lst _ => "list"
  | .tup _ => "tuple"
  | .dic => "dict"
theorem ty_known (d : Dt) : d.ty ∈ knownTy := by cases d <;> simp [Dt.ty, knownTy]
theorem At.ty {K : PySem.W.Frag} {H : Hp} {v : V} {d : Dt} (h : At K H v d) : TyB K H v d.ty := by
  cases d with
  | non => unfold At at h; subst h; exact .non
  | bl b => unfold At at h; subst h; exact .bl b
  | int i => unfold At at h; subst h; exact .int i
  | str w => unfold At at h; obtain ⟨rfl, _⟩ := h; exact .str _
  | lst ds => unfold At at h; obtain ⟨a, xs, rfl, h1, _⟩ := h; exact .lst h1
  | tup ds => unfold At at h; obtain ⟨a, xs, rfl, h1, _⟩ := h; exact .tup h1
  | dic => unfold At at h; obtain ⟨a, rfl, h1⟩ := h; exact .dK h1
/-- what is_row, is_whole, .. tell -/
def isRow : Dt → Bool
  | .lst _ => true
  | .tup _ => true
  | _ => false
def Dt.items : Dt → List Dt
  | .lst ds => ds
  | .tup ds => ds
  | _ => []
def isWhole (d : Dt) (lo : Int) : Bool := match d with
  | .int i => decide (lo ≤ i)
  | _ => false
def isWithin (d : Dt) (lo hi : Int) : Bool := match d with
  | .int i => decide (lo ≤ i) && decide (i ≤ hi)
  | _ => false
def isPlain : Dt → Bool
  | .str w => w.all (alpha.contains ·)
  | _ => false
def isLetter : Dt → Bool
  | .str w => w.all (alpha.contains ·) && decide (w.length = 1)
  | _ => false
def isClip : Dt → Bool
  | .str w => w.all (alpha.contains ·) && decide (w.length ≤ 60)
  | _ => false
def isWord : Dt → Bool
  | .str w => w.all (alpha.contains ·) && decide (w.length ≤ 60) && decide (w ≠ [])
  | _ => false
def isPiece (d : Dt) : Bool := isRow d && (match d.items with
  | [a, b] => isWord a && isWhole b 1
  | _ => false)
def pieceSize (d : Dt) : Int := match d.items with
  | [.str w, .int n] => (w.length : Int) * n
  | _ => 0
def isText (d : Dt) : Bool := isRow d && decide (d.items.length ≤ 40) && d.items.all isPiece && decide ((d.items.map pieceSize).sum ≤ 10 ^ 30)
/-- a text's pieces -/
def pcOf (d : Dt) : List Nat × Nat := match d.items with
  | [.str w, .int n] => (w, n.toNat)
  | _ => ([], 0)
def pcs (d : Dt) : Pcs := d.items.map pcOf
theorem isPiece_of {d : Dt} (h : isPiece d = true) : ∃ w n, d.items = [.str w, .int n] ∧ isRow d = true ∧ Word w ∧ 1 ≤ n := by
  unfold isPiece at h
  rw [Bool.and_eq_true] at h
  obtain ⟨h1, h2⟩ := h
  split at h2
  · rename_i a b e
    rw [Bool.and_eq_true] at h2
    obtain ⟨h3, h4⟩ := h2
    cases a with
    | str w =>
      cases b with
      | int n =>
        unfold isWord at h3
        unfold isWhole at h4
        simp only [Bool.and_eq_true, decide_eq_true_eq] at h3 h4
        exact ⟨w, n, e, h1, ⟨h3.1.1, h3.2, h3.1.2⟩, h4⟩
      | _ => simp [isWhole] at h4
    | _ => simp [isWord] at h3
  · cases h2
theorem sum_size : ∀ {ds : List Dt}, ds.all isPiece = true → (ds.map pieceSize).sum = (size (ds.map pcOf) : Int)
  | [], _ => rfl
  | d :: ds, h => by
    rw [List.all_cons, Bool.and_eq_true] at h
    obtain ⟨w, n, e, _, _, hn⟩ := isPiece_of h.1
    rw [List.map_cons, List.sum_cons, sum_size h.2, List.map_cons, size_cons]
    have e1 : pieceSize d = (w.length : Int) * n := by unfold pieceSize; rw [e]
    have e2 : pcOf d = (w, n.toNat) := by unfold pcOf; rw [e]
    rw [e1, e2, Int.natCast_add, Int.natCast_mul, Int.toNat_of_nonneg (by omega)]
theorem Good.of {d : Dt} (h : isText d = true) : Good (pcs d) := by
  unfold isText at h
  simp only [Bool.and_eq_true, decide_eq_true_eq] at h
  obtain ⟨⟨⟨h1, h2⟩, h3⟩, h4⟩ := h
  refine ⟨by unfold pcs; rw [List.length_map]; exact h2, fun p hp => ?_, ?_⟩
  · unfold pcs at hp
    obtain ⟨e, he, rfl⟩ := List.mem_map.mp hp
    obtain ⟨w, n, e1, _, hw, hn⟩ := isPiece_of (List.all_eq_true.mp h3 e he)
    have e2 : pcOf e = (w, n.toNat) := by unfold pcOf; rw [e1]
    rw [e2]
    exact ⟨hw, by show 1 ≤ n.toNat; omega⟩
  · rw [sum_size h3] at h4
    unfold pcs
    have : ((10 ^ 30 : Nat) : Int) = (10 ^ 30 : Int) := by decide
    omega

/-! ### a text in the heap, by its pieces -/
def PieceAt (K : PySem.W.Frag) (H : Hp) (v : V) (p : List Nat × Nat) : Prop := ∃ a, v = .ref a ∧ Row K H a [.str (tx p.1), .int p.2]
def TextAt (K : PySem.W.Frag) (H : Hp) (v : V) (ps : Pcs) : Prop := ∃ a xs, v = .ref a ∧ Row K H a xs ∧ Paired (PieceAt K H) xs ps
theorem prd_same {α β : Type} {R S : α → β → Prop} (f : ∀ a b, R a b → S a b) : ∀ {xs : List α} {ys : List β}, Paired R xs ys → Paired S xs ys
  | _, _, .nil => .nil
  | _, _, .cons h t => .cons (f _ _ h) (prd_same f t)
theorem PieceAt.same {K : PySem.W.Frag} {H H' : Hp} {v : V} {p} (e : Same H H') (h : PieceAt K H v p) : PieceAt K H' v p := by
  obtain ⟨a, rfl, h⟩ := h
  exact ⟨a, rfl, h.same e⟩
theorem TextAt.same {K : PySem.W.Frag} {H H' : Hp} {v : V} {ps} (e : Same H H') (h : TextAt K H v ps) : TextAt K H' v ps := by
  obtain ⟨a, xs, rfl, h1, h2⟩ := h
  exact ⟨a, xs, rfl, h1.same e, prd_same (fun _ _ => PieceAt.same e) h2⟩
theorem at_row {K : PySem.W.Frag} {H : Hp} {v : V} {d : Dt} (h : At K H v d) (hr : isRow d = true) : ∃ a xs, v = .ref a ∧ Row K H a xs ∧ Ats K H xs d.items := by
  cases d with
  | lst ds => unfold At at h; obtain ⟨a, xs, rfl, h1, h2⟩ := h; exact ⟨a, xs, rfl, .inl h1, h2⟩
  | tup ds => unfold At at h; obtain ⟨a, xs, rfl, h1, h2⟩ := h; exact ⟨a, xs, rfl, .inr h1, h2⟩
  | _ => simp [isRow] at hr
theorem pieceAt_of {K : PySem.W.Frag} {H : Hp} {v : V} {d : Dt} (h : At K H v d) (hp : isPiece d = true) : PieceAt K H v (pcOf d) := by
  obtain ⟨w, n, e, hr, hw, hn⟩ := isPiece_of hp
  obtain ⟨a, xs, rfl, h1, h2⟩ := at_row h hr
  rw [e] at h2
  unfold Ats at h2
  obtain ⟨v1, us, rfl, g1, h2⟩ := h2
  unfold Ats at h2
  obtain ⟨v2, us, rfl, g2, h2⟩ := h2
  unfold Ats at h2
  subst h2
  unfold At at g1 g2
  obtain ⟨rfl, _⟩ := g1
  subst g2
  have e2 : pcOf d = (w, n.toNat) := by unfold pcOf; rw [e]
  rw [e2]
  refine ⟨a, rfl, ?_⟩
  show Row K H a [.str (tx w), .int (n.toNat : Int)]
  rw [Int.toNat_of_nonneg (by omega)]
  exact h1
theorem textAt_of {K : PySem.W.Frag} {H : Hp} {v : V} {d : Dt} (h : At K H v d) (ht : isText d = true) : TextAt K H v (pcs d) := by
  unfold isText at ht
  simp only [Bool.and_eq_true, decide_eq_true_eq] at ht
  obtain ⟨⟨⟨h1, h2⟩, h3⟩, h4⟩ := ht
  obtain ⟨a, xs, rfl, g1, g2⟩ := at_row h h1
  refine ⟨a, xs, rfl, g1, ?_⟩
  unfold pcs
  generalize hd : d.items = ds at g2 h3
  clear hd h4 h1 h2 g1 h
  induction ds generalizing xs with
  | nil => unfold Ats at g2; subst g2; exact .nil
  | cons c ds ih =>
    unfold Ats at g2
    obtain ⟨v, us, rfl, k1, k2⟩ := g2
    rw [List.all_cons, Bool.and_eq_true] at h3
    exact .cons (pieceAt_of k1 h3.1) (ih us k2 h3.2)
theorem prd_at {α β : Type} {R : α → β → Prop} {xs : List α} {ys : List β} (h : Paired R xs ys) : ∀ {i : Nat} {x : α}, xs[i]? = some x → ∃ y, ys[i]? = some y ∧ R x y := by
  induction h with
  | nil => intro i x e; simp at e
  | cons h t ih =>
    intro i x e
    cases i with
    | zero =>
      have := Option.some.inj e
      subst this
      exact ⟨_, rfl, h⟩
    | succ i => exact ih (by simpa using e)
theorem prd_len {α β : Type} {R : α → β → Prop} {xs : List α} {ys : List β} (h : Paired R xs ys) : xs.length = ys.length := Paired.length h

theorem at_ofA {α : Type} {xs : List α} {z : Int} {j : Nat} {v : α} (e : z = (j : Int)) (h : xs[j]? = some v) : atI xs z = some v := by
  rw [e]
  exact atI_nat h
/-! ### readings over rows -/
section
variable {K : PySem.W.Frag} {H : Hp} {a : Addr} {xs : List V}
theorem ix_row {i : Int} {x : V} {Q : VK} (h : Row K H a xs) (e : atI xs i = some x) (q : Q x H) : rIx K (.ref a) (.int i) H Q := by
  rcases h with h | h
  · exact .inl ⟨a, xs, i, x, rfl, rfl, h, e, q⟩
  · exact .inr (.inl ⟨a, xs, i, x, rfl, rfl, h, e, q⟩)
theorem ix_lst {i : Int} {x : V} {Q : VK} (h : H a = some (.lst xs)) (e : atI xs i = some x) (q : Q x H) : rIx K (.ref a) (.int i) H Q := ix_row (.inl (SqL.of h)) e q
theorem ix_tx {z : List Nat} {i : Int} {c : Nat} {Q : VK} (h : z.length ≤ 1000000) (e : atI z i = some c) (q : Q (.str (tx [c])) H) : rIx K (.str (tx z)) (.int i) H Q :=
  .inr (.inr ⟨tx z, i, c, rfl, rfl, by rw [tx_len]; exact Nat.le_trans h (by decide), by rw [tx_cps]; exact e, q⟩)
theorem len_row {Q : VK} (h : Row K H a xs) (q : Q (.int xs.length) H) : rLenA K [.ref a] H Q := .inl ⟨a, xs, rfl, h, q⟩
theorem len_tx {w : List Nat} {Q : VK} (h : w.length ≤ 1000000) (q : Q (.int w.length) H) : rLenA K [.str (tx w)] H Q :=
  .inr ⟨tx w, rfl, by rw [tx_len]; exact Nat.le_trans h (by decide), by rw [tx_len]; exact q⟩
end
theorem Ats.at {K : PySem.W.Frag} {H : Hp} : ∀ {ds : List Dt} {vs : List V} {i : Nat} {v : V}, Ats K H vs ds → vs[i]? = some v → ∃ d, ds[i]? = some d ∧ At K H v d
  | [], vs, i, v, h, e => by unfold Ats at h; subst h; simp at e
  | c :: ds, vs, i, v, h, e => by
    unfold Ats at h
    obtain ⟨x, us, rfl, h1, h2⟩ := h
    cases i with
    | zero =>
      have : x = v := by simpa using e
      subst this
      exact ⟨c, rfl, h1⟩
    | succ i => exact h2.at (by simpa using e)
theorem isum_take : ∀ {l : List Int} {i : Nat} {z : Int}, l[i]? = some z → (l.take (i + 1)).sum = (l.take i).sum + z := sum_take
theorem all_take_succ {α : Type} {p : α → Bool} {l : List α} {i : Nat} {x : α} (h : (l.take i).all p = true) (e : l[i]? = some x) (hx : p x = true) : (l.take (i + 1)).all p = true := by
  rw [List.take_add_one, e, List.all_append, h]
  simp [hx]
end BK

namespace BK
open PySem PySem.Spec PyProof.Rows L2

/-! ### stretches of a word again and again -/
def cyc (w : List Nat) (at_ many : Nat) : List Nat := ((rep w ((at_ % w.length + many) / w.length + 1)).drop (at_ % w.length)).take many
theorem cyc_get {w : List Nat} (hw : w ≠ []) (a m i : Nat) (h : i < m) : (cyc w a m)[i]? = w[(a + i) % w.length]? := by
  have hp : 0 < w.length := List.length_pos_iff.mpr hw
  unfold cyc
  rw [List.getElem?_take, if_pos h, List.getElem?_drop, rep_get]
  · rw [Nat.mod_add_mod]
  · have h1 := Nat.lt_div_mul_add (a := a % w.length + m) hp
    rw [Nat.add_mul, Nat.one_mul]
    omega
theorem drop_rep {w : List Nat} (hw : w ≠ []) {n a m : Nat} (h : a + m ≤ n * w.length) : ((rep w n).drop a).take m = cyc w a m := by
  apply List.ext_getElem?
  intro i
  by_cases hi : i < m
  · rw [cyc_get hw a m i hi, List.getElem?_take, if_pos hi, List.getElem?_drop, rep_get _ _ _ (by omega)]
  · have hp : 0 < w.length := List.length_pos_iff.mpr hw
    rw [List.getElem?_take, if_neg hi]
    unfold cyc
    rw [List.getElem?_take, if_neg hi]
theorem cyc_len {w : List Nat} (hw : w ≠ []) (a m : Nat) : (cyc w a m).length = m := by
  have hp : 0 < w.length := List.length_pos_iff.mpr hw
  unfold cyc
  rw [List.length_take, List.length_drop, rep_len]
  have h1 := Nat.lt_div_mul_add (a := a % w.length + m) hp
  rw [Nat.add_mul, Nat.one_mul]
  omega

theorem rep_mem {x : List Nat} {c : Nat} : ∀ {n : Nat}, c ∈ rep x n → c ∈ x
  | 0, h => by cases h
  | n + 1, h => by
    rw [rep_succ] at h
    rcases List.mem_append.mp h with h | h
    · exact h
    · exact rep_mem h
/-! ### spans -/
abbrev Span := Nat × Nat × List Nat
def spansOf : Nat → Pcs → List Span
  | _, [] => []
  | s, p :: ps => (s, s + p.1.length * p.2, p.1) :: spansOf (s + p.1.length * p.2) ps
theorem spansOf_len : ∀ (ps : Pcs) (s : Nat), (spansOf s ps).length = ps.length
  | [], _ => rfl
  | p :: ps, s => by unfold spansOf; rw [List.length_cons, spansOf_len ps, List.length_cons]
theorem spansOf_get : ∀ (ps : Pcs) (s i : Nat) (p), ps[i]? = some p → (spansOf s ps)[i]? = some (s + size (ps.take i), s + size (ps.take i) + p.1.length * p.2, p.1)
  | [], s, i, p, h => by simp at h
  | q :: ps, s, 0, p, h => by
    have : q = p := by simpa using h
    subst this
    simp [spansOf, size]
  | q :: ps, s, i + 1, p, h => by
    unfold spansOf
    rw [List.getElem?_cons_succ, spansOf_get ps _ i p (by simpa using h), List.take_succ_cons, size_cons]
    simp only [Nat.add_assoc]
theorem spansOf_at (ps : Pcs) {i : Nat} {x : Span} (h : (spansOf 0 ps)[i]? = some x) : ∃ p, ps[i]? = some p ∧ x = (size (ps.take i), size (ps.take i) + p.1.length * p.2, p.1) := by
  have hl := (List.getElem?_eq_some_iff.mp h).1
  rw [spansOf_len] at hl
  refine ⟨ps[i], List.getElem?_eq_getElem hl, ?_⟩
  have := spansOf_get ps 0 i ps[i] (List.getElem?_eq_getElem hl)
  rw [this] at h
  have := Option.some.inj h
  rw [← this]
  simp only [Nat.zero_add]
def SpanAt (H : Hp) (v : V) (x : Span) : Prop := ∃ a, v = .ref a ∧ H a = some (.tup [.int x.1, .int x.2.1, .str (tx x.2.2)])
def SpansAt (H : Hp) (a : Addr) (xs : List Span) : Prop := ∃ us, H a = some (.lst us) ∧ Paired (SpanAt H) us xs
theorem SpanAt.same {H H' : Hp} {v : V} {x : Span} (e : Same H H') (h : SpanAt H v x) : SpanAt H' v x := by
  obtain ⟨a, rfl, h⟩ := h
  exact ⟨a, rfl, e _ _ h⟩
theorem SpansAt.same {H H' : Hp} {a : Addr} {xs : List Span} (e : Same H H') (h : SpansAt H a xs) : SpansAt H' a xs := by
  obtain ⟨us, h1, h2⟩ := h
  exact ⟨us, e _ _ h1, prd_same (fun _ _ => SpanAt.same e) h2⟩
theorem SpanAt.upd {H : Hp} {v : V} {x : Span} {o : Addr} {us vs : List V} (ho : H o = some (.lst us)) (h : SpanAt H v x) : SpanAt (upd H o (.lst vs)) v x := by
  obtain ⟨a, rfl, h⟩ := h
  exact ⟨a, rfl, by rw [upd_ne (ne_of h ho (by intro z; cases z))]; exact h⟩
theorem prd_snoc {α β : Type} {R : α → β → Prop} {xs : List α} {ys : List β} {x : α} {y : β} (h : Paired R xs ys) (hxy : R x y) : Paired R (xs ++ [x]) (ys ++ [y]) := by
  induction h with
  | nil => exact .cons hxy .nil
  | cons a t ih => exact .cons a ih
theorem same_mut {H H' : Hp} {p : Addr} {o : HO} (e : Same H H') (h : H p = none) : Same H (upd H' p o) := fun a u ha => by
  rw [upd_ne (ne_of_none ha h)]
  exact e a u ha
/-- the spans' end -/
theorem spansOf_last {ps : Pcs} (h : ps ≠ []) : ∃ p s, ps.getLast? = some p ∧ (spansOf 0 ps).getLast? = some (s, size ps, p.1) := by
  have hp : 0 < ps.length := List.length_pos_iff.mpr h
  have e := List.getElem?_eq_getElem (l := ps) (i := ps.length - 1) (by omega)
  refine ⟨ps[ps.length - 1], size (ps.take (ps.length - 1)), by rw [List.getLast?_eq_getElem?, e], ?_⟩
  rw [List.getLast?_eq_getElem?, spansOf_len, spansOf_get ps 0 _ _ e, Nat.zero_add, ← size_take_succ ps e, show ps.length - 1 + 1 = ps.length by omega, List.take_length]

/-! ### looks, counts, so-manieths of what is spelled -/
theorem spell_take_succ {ps : Pcs} {i : Nat} {p} (h : ps[i]? = some p) : spell (ps.take (i + 1)) = spell (ps.take i) ++ rep p.1 p.2 := by
  rw [List.take_add_one, h, spell_app]
  show _ ++ spell [p] = _
  rw [spell_cons, spell_nil, List.append_nil]
theorem look_app (A B : List Nat) (p m : Nat) : ((A ++ B).drop p).take m = (A.drop p).take m ++ (B.drop (max A.length p - A.length)).take (min (A.length + B.length) (p + m) - max A.length p) := by
  rw [List.drop_append, List.take_append, List.length_drop]
  congr 1
  rw [show max A.length p - A.length = p - A.length by omega]
  by_cases h : m - (A.length - p) ≤ B.length - (p - A.length)
  · congr 1
    omega
  · rw [List.take_of_length_le (by rw [List.length_drop]; omega), List.take_of_length_le (by rw [List.length_drop]; omega)]
theorem count_app (A B : List Nat) (c m : Nat) : ((A ++ B).take m).count c = (A.take m).count c + (B.take (min (A.length + B.length) m - A.length)).count c := by
  rw [List.take_append, List.count_append]
  congr 2
  by_cases h : m - A.length ≤ B.length
  · congr 1
    omega
  · rw [List.take_of_length_le (by omega), List.take_of_length_le (by omega)]
/-- the places of a sign -/
def pos (w : List Nat) (c : Nat) : List Nat := (List.range w.length).filter fun i => w[i]? == some c
def IsNth (l : List Nat) (c k i : Nat) : Prop := l[i]? = some c ∧ (l.take i).count c = k
theorem posTo (w : List Nat) (c : Nat) : ∀ n, n ≤ w.length → ((List.range n).filter fun i => w[i]? == some c).length = (w.take n).count c ∧
    ∀ k i, ((List.range n).filter fun i => w[i]? == some c)[k]? = some i → IsNth w c k i
  | 0, _ => ⟨by simp, fun k i h => by simp at h⟩
  | n + 1, hn => by
    obtain ⟨ih1, ih2⟩ := posTo w c n (by omega)
    rw [List.range_succ, List.filter_append]
    have hg : w[n]? = some w[n] := List.getElem?_eq_getElem (by omega)
    by_cases hc : w[n] = c
    · have e : (List.filter (fun i => w[i]? == some c) [n]) = [n] := by
        rw [List.filter_cons, hg, hc]
        simp
      rw [e]
      have hcount : (w.take (n + 1)).count c = (w.take n).count c + 1 := by
        rw [List.take_add_one, hg, List.count_append, hc]
        simp
      refine ⟨by rw [List.length_append, ih1, hcount]; rfl, fun k i h => ?_⟩
      by_cases hk : k < ((List.range n).filter fun i => w[i]? == some c).length
      · rw [List.getElem?_append_left hk] at h
        exact ih2 k i h
      · rw [List.getElem?_append_right (by omega)] at h
        have hk0 : k - ((List.range n).filter fun i => w[i]? == some c).length = 0 := by
          have := (List.getElem?_eq_some_iff.mp h).1
          simp at this
          omega
        rw [hk0] at h
        have hi : n = i := by simpa using h
        subst hi
        refine ⟨by rw [hg, hc], ?_⟩
        rw [← ih1]
        omega
    · have e : (List.filter (fun i => w[i]? == some c) [n]) = [] := by
        rw [List.filter_cons, hg]
        simp [hc]
      rw [e, List.append_nil]
      have hcount : (w.take (n + 1)).count c = (w.take n).count c := by
        rw [List.take_add_one, hg, List.count_append]
        simp [hc]
      exact ⟨by rw [ih1, hcount], ih2⟩
theorem pos_len (w : List Nat) (c : Nat) : (pos w c).length = w.count c := by
  have := (posTo w c w.length (Nat.le_refl _)).1
  rw [List.take_length] at this
  exact this
theorem pos_get {w : List Nat} {c k i : Nat} (h : (pos w c)[k]? = some i) : IsNth w c k i := (posTo w c w.length (Nat.le_refl _)).2 k i h
theorem nth_rep {w : List Nat} {c q r i n : Nat} (h : IsNth w c r i) (hq : q < n) : IsNth (rep w n) c (q * w.count c + r) (q * w.length + i) := by
  have hi := (List.getElem?_eq_some_iff.mp h.1).1
  have e : n = q + ((n - q - 1) + 1) := by omega
  rw [e, rep_add, rep_succ]
  constructor
  · rw [List.getElem?_append_right (by rw [rep_len]; omega), rep_len, show q * w.length + i - q * w.length = i by omega, List.getElem?_append_left hi]
    exact h.1
  · rw [List.take_append, rep_len, List.count_append, List.take_of_length_le (by rw [rep_len]; omega), rep_count, show q * w.length + i - q * w.length = i by omega, List.take_append_of_le_length (by omega), h.2]
theorem nth_app_right {A B : List Nat} {c k i : Nat} (h : IsNth B c k i) : IsNth (A ++ B) c (A.count c + k) (A.length + i) := by
  constructor
  · rw [List.getElem?_append_right (by omega), show A.length + i - A.length = i by omega]
    exact h.1
  · rw [List.take_append, List.count_append, List.take_of_length_le (by omega), show A.length + i - A.length = i by omega, h.2]
theorem nth_app_left {A B : List Nat} {c k i : Nat} (h : IsNth A c k i) : IsNth (A ++ B) c k i := by
  have hi := (List.getElem?_eq_some_iff.mp h.1).1
  exact ⟨by rw [List.getElem?_append_left hi]; exact h.1, by rw [List.take_append_of_le_length (by omega)]; exact h.2⟩
end BK

namespace BK
open PySem PySem.Spec PyProof.Rows L2

/-! ### two rows of letters that go round -/
theorem two_rounds {u v : Nat → Option Nat} {p q low high : Nat} (hp : 0 < p) (hq : 0 < q) (hu : ∀ i, low ≤ i → i + p < high → u (i + p) = u i) (hv : ∀ i, low ≤ i → i + q < high → v (i + q) = v i)
    (h : ∀ i, low ≤ i → i < low + p + q → i < high → u i = v i) : ∀ n i, i ≤ n → low ≤ i → i < high → u i = v i
  | 0, i, hn, hl, hh => h i hl (by omega) hh
  | n + 1, i, hn, hl, hh => by
    by_cases hi : i < low + p + q
    · exact h i hl hi hh
    · have ih := two_rounds hp hq hu hv h n
      have e1 : u i = u (i - p) := by
        have := hu (i - p) (by omega) (by omega)
        rwa [show i - p + p = i by omega] at this
      have e2 := ih (i - p) (by omega) (by omega) (by omega)
      have e3 : v (i - p) = v (i - p - q) := by
        have := hv (i - p - q) (by omega) (by omega)
        rwa [show i - p - q + q = i - p by omega] at this
      have e4 := ih (i - p - q) (by omega) (by omega) (by omega)
      have e5 : u (i - q) = u (i - p - q) := by
        have := hu (i - p - q) (by omega) (by omega)
        rwa [show i - p - q + p = i - q by omega] at this
      have e6 := ih (i - q) (by omega) (by omega) (by omega)
      have e7 : v i = v (i - q) := by
        have := hv (i - q) (by omega) (by omega)
        rwa [show i - q + q = i by omega] at this
      rw [e1, e2, e3, ← e4, ← e5, e6, e7]
/-- between two ends a text is one word again and again, or has ended -/
def Round (A : List Nat) (low high : Nat) : Prop := ∃ p, 0 < p ∧ p ≤ 60 ∧ ∀ i, low ≤ i → i + p < high → A[i + p]? = A[i]?
theorem round_of : ∀ (ps : Pcs) (low high : Nat), (∀ x ∈ ps, x.1 ≠ [] ∧ x.1.length ≤ 60) → low < high → (∀ k, k < ps.length → size (ps.take (k + 1)) ≤ low ∨ high ≤ size (ps.take (k + 1))) →
    size ps ≤ low ∨ (high ≤ size ps ∧ Round (spell ps) low high)
  | [], low, high, _, _, _ => .inl (Nat.zero_le _)
  | x :: ps, low, high, hg, hlh, he => by
    have hx := hg x (List.mem_cons_self ..)
    have hp : 0 < x.1.length := List.length_pos_iff.mpr hx.1
    have e0 : size ((x :: ps).take (0 + 1)) = x.1.length * x.2 := by simp [size]
    have hmul : x.2 * x.1.length = x.1.length * x.2 := Nat.mul_comm _ _
    by_cases hl : low < x.1.length * x.2
    · have h1 := he 0 (by simp)
      rw [e0] at h1
      have h2 : high ≤ x.1.length * x.2 := by omega
      refine .inr ⟨by rw [size_cons]; omega, x.1.length, hp, hx.2, fun i h3 h4 => ?_⟩
      rw [spell_cons, List.getElem?_append_left (by rw [rep_len, hmul]; omega), List.getElem?_append_left (by rw [rep_len, hmul]; omega), rep_get _ _ _ (by rw [hmul]; omega), rep_get _ _ _ (by rw [hmul]; omega), Nat.add_mod_right]
    · have ih := round_of ps (low - x.1.length * x.2) (high - x.1.length * x.2) (fun y hy => hg y (List.mem_cons_of_mem _ hy)) (by omega) (fun k hk => by
        have := he (k + 1) (by rw [List.length_cons]; omega)
        rw [List.take_succ_cons, size_cons] at this
        omega)
      rcases ih with ih | ⟨ih1, p, ih2, ih3, ih4⟩
      · exact .inl (by rw [size_cons]; omega)
      · refine .inr ⟨by rw [size_cons]; omega, p, ih2, ih3, fun i h3 h4 => ?_⟩
        have := ih4 (i - x.1.length * x.2) (by omega) (by omega)
        rw [spell_cons, List.getElem?_append_right (by rw [rep_len, hmul]; omega), List.getElem?_append_right (by rw [rep_len, hmul]; omega), rep_len, hmul]
        rw [show i + p - x.1.length * x.2 = i - x.1.length * x.2 + p by omega]
        exact this
/-- told so far alike, and so on the next stretch: alike to the next end -/
theorem alike_on {A B : List Nat} {low high : Nat} (hlh : low ≤ high) (h0 : A.take low = B.take low)
    (hA : A.length ≤ low ∨ (high ≤ A.length ∧ Round A low high)) (hB : B.length ≤ low ∨ (high ≤ B.length ∧ Round B low high))
    (h : (A.drop low).take (min (high - low) 120) = (B.drop low).take (min (high - low) 120)) : A.take high = B.take high := by
  by_cases he : low = high
  · rw [← he]
    exact h0
  have hlt : low < high := by omega
  have hl := congrArg List.length h
  rw [List.length_take, List.length_take, List.length_drop, List.length_drop] at hl
  rcases hA with hA | ⟨hA, p, hp, hp2, hpA⟩
  · rcases hB with hB | ⟨hB, _⟩
    · rw [List.take_of_length_le hA, List.take_of_length_le hB] at h0
      rw [h0]
    · omega
  · rcases hB with hB | ⟨hB, q, hq, hq2, hqB⟩
    · omega
    · have hag : ∀ i, low ≤ i → i < low + p + q → i < high → A[i]? = B[i]? := fun i h1 h2 h3 => by
        have e := congrArg (fun l => l[i - low]?) h
        simp only [List.getElem?_take, List.getElem?_drop] at e
        rw [if_pos (by omega), if_pos (by omega), show low + (i - low) = i by omega] at e
        exact e
      have hall := two_rounds (u := fun i => A[i]?) (v := fun i => B[i]?) hp hq hpA hqB hag
      apply List.ext_getElem?
      intro i
      rw [List.getElem?_take, List.getElem?_take]
      by_cases hi : i < high
      · rw [if_pos hi, if_pos hi]
        by_cases hil : i < low
        · have e := congrArg (fun l => l[i]?) h0
          simp only [List.getElem?_take] at e
          rw [if_pos hil, if_pos hil] at e
          exact e
        · exact hall i i (Nat.le_refl _) (by omega) hi
      · rw [if_neg hi, if_neg hi]
/-- the first place at which two rows are unlike -/
def Unlike (A B : List Nat) (i : Nat) : Prop := A.take i = B.take i ∧ A[i]? ≠ B[i]?
theorem Unlike.symm {A B : List Nat} {i : Nat} (h : Unlike A B i) : Unlike B A i := ⟨h.1.symm, h.2.symm⟩
theorem Unlike.uniq {A B : List Nat} {i j : Nat} (h : Unlike A B i) (k : Unlike A B j) : i = j := by
  have key : ∀ {i j : Nat}, Unlike A B i → Unlike A B j → ¬ i < j := fun {i j} h k hlt => by
    have e := congrArg (fun l => l[i]?) k.1
    simp only [List.getElem?_take] at e
    rw [if_pos hlt, if_pos hlt] at e
    exact h.2 e
  have h1 := key h k
  have h2 := key k h
  omega
theorem Unlike.ne {A B : List Nat} {i : Nat} (h : Unlike A B i) : A ≠ B := fun z => h.2 (by rw [z])
theorem Unlike.le {A B : List Nat} {i : Nat} (h : Unlike A B i) : i ≤ max A.length B.length := by
  by_cases hi : i ≤ max A.length B.length
  · exact hi
  · exact absurd (by rw [List.getElem?_eq_none (by omega), List.getElem?_eq_none (by omega)]) h.2
theorem unlike_on {A B : List Nat} {low many at_ : Nat} (h0 : A.take low = B.take low) (h : Unlike ((A.drop low).take many) ((B.drop low).take many) at_) : Unlike A B (low + at_) := by
  obtain ⟨h1, h2⟩ := h
  have hlt : at_ < many := by
    by_cases hm : at_ < many
    · exact hm
    · refine absurd ?_ h2
      rw [List.getElem?_eq_none (by rw [List.length_take]; omega), List.getElem?_eq_none (by rw [List.length_take]; omega)]
  rw [List.take_take, List.take_take, Nat.min_eq_left (by omega)] at h1
  rw [List.getElem?_take, List.getElem?_take, if_pos hlt, if_pos hlt, List.getElem?_drop, List.getElem?_drop] at h2
  refine ⟨?_, h2⟩
  rw [List.take_add, List.take_add, h0, h1]
end BK

namespace BK
open PySem PySem.Spec PyProof.Rows L2
def topS (i : Nat) : Stmt := PySem.Challenge.pw_blindkeys_k06_whole_texts_told_otherwise.main.body.getD i (.Pass ⟨0, 0, 0, 0⟩)
abbrev s_is_row : Stmt := topS 9
abbrev N_is_row : List Str := ["thing"]
theorem sc_is_row : FnScope N_is_row ["thing"] (defScope s_is_row) := ⟨rfl, rfl, rfl, by decide +kernel, rfl, by decide +kernel, by decide +kernel⟩
abbrev s_is_whole : Stmt := topS 10
abbrev N_is_whole : List Str := ["thing", "low"]
theorem sc_is_whole : FnScope N_is_whole ["thing", "low"] (defScope s_is_whole) := ⟨rfl, rfl, rfl, by decide +kernel, rfl, by decide +kernel, by decide +kernel⟩
abbrev s_is_within : Stmt := topS 11
abbrev N_is_within : List Str := ["thing", "low", "high"]
theorem sc_is_within : FnScope N_is_within ["thing", "low", "high"] (defScope s_is_within) := ⟨rfl, rfl, rfl, by decide +kernel, rfl, by decide +kernel, by decide +kernel⟩
abbrev s_is_plain : Stmt := topS 12
abbrev N_is_plain : List Str := ["thing"]
theorem sc_is_plain : FnScope N_is_plain ["thing"] (defScope s_is_plain) := ⟨rfl, rfl, rfl, by decide +kernel, rfl, by decide +kernel, by decide +kernel⟩
abbrev s_is_letter : Stmt := topS 13
abbrev N_is_letter : List Str := ["thing"]
theorem sc_is_letter : FnScope N_is_letter ["thing"] (defScope s_is_letter) := ⟨rfl, rfl, rfl, by decide +kernel, rfl, by decide +kernel, by decide +kernel⟩
abbrev s_is_clip : Stmt := topS 14
abbrev N_is_clip : List Str := ["thing"]
theorem sc_is_clip : FnScope N_is_clip ["thing"] (defScope s_is_clip) := ⟨rfl, rfl, rfl, by decide +kernel, rfl, by decide +kernel, by decide +kernel⟩
abbrev s_is_word : Stmt := topS 15
abbrev N_is_word : List Str := ["thing"]
theorem sc_is_word : FnScope N_is_word ["thing"] (defScope s_is_word) := ⟨rfl, rfl, rfl, by decide +kernel, rfl, by decide +kernel, by decide +kernel⟩
abbrev s_is_piece : Stmt := topS 20
abbrev N_is_piece : List Str := ["thing"]
theorem sc_is_piece : FnScope N_is_piece ["thing"] (defScope s_is_piece) := ⟨rfl, rfl, rfl, by decide +kernel, rfl, by decide +kernel, by decide +kernel⟩
abbrev s_is_text : Stmt := topS 21
abbrev N_is_text : List Str := ["thing", "many", "piece"]
theorem sc_is_text : FnScope N_is_text ["thing"] (defScope s_is_text) := ⟨rfl, rfl, rfl, by decide +kernel, rfl, by decide +kernel, by decide +kernel⟩
abbrev s_check_text : Stmt := topS 22
abbrev N_check_text : List Str := ["thing"]
theorem sc_check_text : FnScope N_check_text ["thing"] (defScope s_check_text) := ⟨rfl, rfl, rfl, by decide +kernel, rfl, by decide +kernel, by decide +kernel⟩
abbrev s_check_letter : Stmt := topS 23
abbrev N_check_letter : List Str := ["thing"]
theorem sc_check_letter : FnScope N_check_letter ["thing"] (defScope s_check_letter) := ⟨rfl, rfl, rfl, by decide +kernel, rfl, by decide +kernel, by decide +kernel⟩
abbrev s_spans_of : Stmt := topS 24
abbrev N_spans_of : List Str := ["text", "spans", "start", "word", "times", "stop"]
theorem sc_spans_of : FnScope N_spans_of ["text"] (defScope s_spans_of) := ⟨rfl, rfl, rfl, by decide +kernel, rfl, by decide +kernel, by decide +kernel⟩
abbrev s_end_of : Stmt := topS 25
abbrev N_end_of : List Str := ["spans"]
theorem sc_end_of : FnScope N_end_of ["spans"] (defScope s_end_of) := ⟨rfl, rfl, rfl, by decide +kernel, rfl, by decide +kernel, by decide +kernel⟩
abbrev s_stretch : Stmt := topS 26
abbrev N_stretch : List Str := ["word", "at", "many", "first", "enough"]
theorem sc_stretch : FnScope N_stretch ["word", "at", "many"] (defScope s_stretch) := ⟨rfl, rfl, rfl, by decide +kernel, rfl, by decide +kernel, by decide +kernel⟩
abbrev s_look : Stmt := topS 27
abbrev N_look : List Str := ["spans", "place", "many", "seen", "start", "stop", "word", "low", "high"]
theorem sc_look : FnScope N_look ["spans", "place", "many"] (defScope s_look) := ⟨rfl, rfl, rfl, by decide +kernel, rfl, by decide +kernel, by decide +kernel⟩
abbrev s_among : Stmt := topS 28
abbrev N_among : List Str := ["word", "sign", "many", "words", "rest"]
theorem sc_among : FnScope N_among ["word", "sign", "many"] (defScope s_among) := ⟨rfl, rfl, rfl, by decide +kernel, rfl, by decide +kernel, by decide +kernel⟩
abbrev s_nth_again : Stmt := topS 29
abbrev N_nth_again : List Str := ["word", "sign", "number", "places", "words", "rest", "at"]
theorem sc_nth_again : FnScope N_nth_again ["word", "sign", "number"] (defScope s_nth_again) := ⟨rfl, rfl, rfl, by decide +kernel, rfl, by decide +kernel, by decide +kernel⟩
abbrev s_split_at : Stmt := topS 30
abbrev N_split_at : List Str := ["one", "other", "shorter", "at"]
theorem sc_split_at : FnScope N_split_at ["one", "other"] (defScope s_split_at) := ⟨rfl, rfl, rfl, by decide +kernel, rfl, by decide +kernel, by decide +kernel⟩
abbrev s_length : Stmt := topS 31
abbrev N_length : List Str := ["text"]
theorem sc_length : FnScope N_length ["text"] (defScope s_length) := ⟨rfl, rfl, rfl, by decide +kernel, rfl, by decide +kernel, by decide +kernel⟩
abbrev s_letter : Stmt := topS 32
abbrev N_letter : List Str := ["text", "place", "spans"]
theorem sc_letter : FnScope N_letter ["text", "place"] (defScope s_letter) := ⟨rfl, rfl, rfl, by decide +kernel, rfl, by decide +kernel, by decide +kernel⟩
abbrev s_count : Stmt := topS 33
abbrev N_count : List Str := ["text", "sign", "many", "spans", "told", "start", "stop", "word"]
theorem sc_count : FnScope N_count ["text", "sign", "many"] (defScope s_count) := ⟨rfl, rfl, rfl, by decide +kernel, rfl, by decide +kernel, by decide +kernel⟩
abbrev s_nth : Stmt := topS 34
abbrev N_nth : List Str := ["text", "sign", "number", "passed", "start", "stop", "word", "here"]
theorem sc_nth : FnScope N_nth ["text", "sign", "number"] (defScope s_nth) := ⟨rfl, rfl, rfl, by decide +kernel, rfl, by decide +kernel, by decide +kernel⟩
abbrev s_first_unlike : Stmt := topS 35
abbrev N_first_unlike : List Str := ["text", "other", "mine", "others", "low", "high", "many", "one", "two", "span"]
theorem sc_first_unlike : FnScope N_first_unlike ["text", "other"] (defScope s_first_unlike) := ⟨rfl, rfl, rfl, by decide +kernel, rfl, by decide +kernel, by decide +kernel⟩
abbrev s__law_spring : Stmt := topS 37
abbrev N__law_spring : List Str := ["script", "figures", "stir", "cell"]
theorem sc__law_spring : FnScope N__law_spring ["script"] (defScope s__law_spring) := ⟨rfl, rfl, rfl, by decide +kernel, rfl, by decide +kernel, by decide +kernel⟩
abbrev s__law_draw : Stmt := topS 38
abbrev N__law_draw : List Str := ["spring", "many", "found", "stir"]
theorem sc__law_draw : FnScope N__law_draw ["spring", "many"] (defScope s__law_draw) := ⟨rfl, rfl, rfl, by decide +kernel, rfl, by decide +kernel, by decide +kernel⟩
abbrev s__law_word : Stmt := topS 40
abbrev N__law_word : List Str := ["spring", "most", "kinds", "k"]
theorem sc__law_word : FnScope N__law_word ["spring", "most"] (defScope s__law_word) := ⟨rfl, rfl, rfl, by decide +kernel, rfl, by decide +kernel, by decide +kernel⟩
abbrev s__law_text : Stmt := topS 41
abbrev N__law_text : List Str := ["spring", "most", "wide", "times", "found", "k"]
theorem sc__law_text : FnScope N__law_text ["spring", "most", "wide", "times"] (defScope s__law_text) := ⟨rfl, rfl, rfl, by decide +kernel, rfl, by decide +kernel, by decide +kernel⟩
abbrev s__law_otherwise : Stmt := topS 43
abbrev N__law_otherwise : List Str := ["spring", "piece", "word", "times", "way", "cut", "at"]
theorem sc__law_otherwise : FnScope N__law_otherwise ["spring", "piece"] (defScope s__law_otherwise) := ⟨rfl, rfl, rfl, by decide +kernel, rfl, by decide +kernel, by decide +kernel⟩
abbrev s__law_bent : Stmt := topS 44
abbrev N__law_bent : List Str := ["text", "place", "found", "begun", "word", "times", "size", "whole", "at", "other"]
theorem sc__law_bent : FnScope N__law_bent ["text", "place"] (defScope s__law_bent) := ⟨rfl, rfl, rfl, by decide +kernel, rfl, by decide +kernel, by decide +kernel⟩
abbrev s__law_long_right : Stmt := topS 45
abbrev N__law_long_right : List Str := ["spring", "begun", "one", "two", "often", "times", "both", "parts", "sizes", "due", "first", "other", "at"]
theorem sc__law_long_right : FnScope N__law_long_right ["spring"] (defScope s__law_long_right) := ⟨rfl, rfl, rfl, by decide +kernel, rfl, by decide +kernel, by decide +kernel⟩
abbrev s__law_ends_right : Stmt := topS 46
abbrev N__law_ends_right : List Str := ["spring", "text", "word", "times", "some", "other", "due"]
theorem sc__law_ends_right : FnScope N__law_ends_right ["spring", "text"] (defScope s__law_ends_right) := ⟨rfl, rfl, rfl, by decide +kernel, rfl, by decide +kernel, by decide +kernel⟩
abbrev s_law : Stmt := topS 47
abbrev N_law : List Str := ["script", "spring", "turn", "text", "other", "piece", "size", "again", "place", "sign", "number", "bent"]
theorem sc_law : FnScope N_law ["script"] (defScope s_law) := ⟨rfl, rfl, rfl, by decide +kernel, rfl, by decide +kernel, by decide +kernel⟩
structure FnT (K : PySem.W.Frag) (mg : Str → Option Value) (x : Str) (st : Stmt) (ps : List Str) : Type where
  f : Addr
  fd : FuncData
  F : Fun K x x st f fd
  g : mg x = some (.ref f)
  b : Binds K fd ps []
structure Txt (K : PySem.W.Frag) (mg : Str → Option Value) : Type where
  f_is_row : FnT K mg "is_row" s_is_row ["thing"]
  f_is_whole : FnT K mg "is_whole" s_is_whole ["thing", "low"]
  f_is_within : FnT K mg "is_within" s_is_within ["thing", "low", "high"]
  f_is_plain : FnT K mg "is_plain" s_is_plain ["thing"]
  f_is_letter : FnT K mg "is_letter" s_is_letter ["thing"]
  f_is_clip : FnT K mg "is_clip" s_is_clip ["thing"]
  f_is_word : FnT K mg "is_word" s_is_word ["thing"]
  f_is_piece : FnT K mg "is_piece" s_is_piece ["thing"]
  f_is_text : FnT K mg "is_text" s_is_text ["thing"]
  f_check_text : FnT K mg "check_text" s_check_text ["thing"]
  f_check_letter : FnT K mg "check_letter" s_check_letter ["thing"]
  f_spans_of : FnT K mg "spans_of" s_spans_of ["text"]
  f_end_of : FnT K mg "end_of" s_end_of ["spans"]
  f_stretch : FnT K mg "stretch" s_stretch ["word", "at", "many"]
  f_look : FnT K mg "look" s_look ["spans", "place", "many"]
  f_among : FnT K mg "among" s_among ["word", "sign", "many"]
  f_nth_again : FnT K mg "nth_again" s_nth_again ["word", "sign", "number"]
  f_split_at : FnT K mg "split_at" s_split_at ["one", "other"]
  f_length : FnT K mg "length" s_length ["text"]
  f_letter : FnT K mg "letter" s_letter ["text", "place"]
  f_count : FnT K mg "count" s_count ["text", "sign", "many"]
  f_nth : FnT K mg "nth" s_nth ["text", "sign", "number"]
  f_first_unlike : FnT K mg "first_unlike" s_first_unlike ["text", "other"]
  f__law_spring : FnT K mg "_law_spring" s__law_spring ["script"]
  f__law_draw : FnT K mg "_law_draw" s__law_draw ["spring", "many"]
  f__law_word : FnT K mg "_law_word" s__law_word ["spring", "most"]
  f__law_text : FnT K mg "_law_text" s__law_text ["spring", "most", "wide", "times"]
  f__law_otherwise : FnT K mg "_law_otherwise" s__law_otherwise ["spring", "piece"]
  f__law_bent : FnT K mg "_law_bent" s__law_bent ["text", "place"]
  f__law_long_right : FnT K mg "_law_long_right" s__law_long_right ["spring"]
  f__law_ends_right : FnT K mg "_law_ends_right" s__law_ends_right ["spring", "text"]
  f_law : FnT K mg "law" s_law ["script"]
  b_abs : mg "abs" = none
  b_divmod : mg "divmod" = none
  b_int : mg "int" = none
  b_len : mg "len" = none
  b_list : mg "list" = none
  b_max : mg "max" = none
  b_min : mg "min" = none
  b_range : mg "range" = none
  b_sorted : mg "sorted" = none
  b_str : mg "str" = none
  b_tuple : mg "tuple" = none
  b_type : mg "type" = none
  c_ALPHABET : ∃ t, mg "ALPHABET" = some (.str "abcdefghijklmnopqrstuvwxyz" t)
  c_LONGEST_WORD : ∃ t, mg "LONGEST_WORD" = some (.int 60 t)
  c_MOST_LETTERS : ∃ t, mg "MOST_LETTERS" = some (.int 1000000000000000000000000000000 t)
  c_MOST_PIECES : ∃ t, mg "MOST_PIECES" = some (.int 40 t)
  c_TWO_WORDS : ∃ t, mg "TWO_WORDS" = some (.int 120 t)
theorem pe_c_ALPHABET {X : Cx} {pos : Pos} (T : Txt X.K X.mg) (hg : Gl X "ALPHABET" := by rfl) : PE X (.Name "ALPHABET" pos) (tC (.str "abcdefghijklmnopqrstuvwxyz")) := by
  obtain ⟨t, e⟩ := T.c_ALPHABET
  exact pe_glob hg e ⟨_, rfl⟩
theorem pe_c_LONGEST_WORD {X : Cx} {pos : Pos} (T : Txt X.K X.mg) (hg : Gl X "LONGEST_WORD" := by rfl) : PE X (.Name "LONGEST_WORD" pos) (tC (.int 60)) := by
  obtain ⟨t, e⟩ := T.c_LONGEST_WORD
  exact pe_glob hg e ⟨_, rfl⟩
theorem pe_c_MOST_LETTERS {X : Cx} {pos : Pos} (T : Txt X.K X.mg) (hg : Gl X "MOST_LETTERS" := by rfl) : PE X (.Name "MOST_LETTERS" pos) (tC (.int 1000000000000000000000000000000)) := by
  obtain ⟨t, e⟩ := T.c_MOST_LETTERS
  exact pe_glob hg e ⟨_, rfl⟩
theorem pe_c_MOST_PIECES {X : Cx} {pos : Pos} (T : Txt X.K X.mg) (hg : Gl X "MOST_PIECES" := by rfl) : PE X (.Name "MOST_PIECES" pos) (tC (.int 40)) := by
  obtain ⟨t, e⟩ := T.c_MOST_PIECES
  exact pe_glob hg e ⟨_, rfl⟩
theorem pe_c_TWO_WORDS {X : Cx} {pos : Pos} (T : Txt X.K X.mg) (hg : Gl X "TWO_WORDS" := by rfl) : PE X (.Name "TWO_WORDS" pos) (tC (.int 120)) := by
  obtain ⟨t, e⟩ := T.c_TWO_WORDS
  exact pe_glob hg e ⟨_, rfl⟩
local macro_rules | `(tactic| walk_at "rd") => `(tactic| try dsimp only [tSeq, tNext, tRet, tRetN, tDrop, tIfS, tAsg, tPar, tAug, tVar, tC, tOp, tUn, tCB, tCons, tNil, tTup, tLst, tCall, tTest, tB, tNot, tAnd, tOr, tAndV, tOrV, tNotV, tIf, tIsN, tNotN, tSl, tPart, tNoPart, tM1, tM0, tBM, tBM0, tChain, gName, gTup, gUnl, gCons, gNil, List.nil_append, List.append_nil, List.cons_append])
section
variable {P : Program} {w : World} {K : PySem.W.Frag} {mg : Str → Option Value} {base : Heap}
/-! ## kinds -/
def spIsRow (K : PySem.W.Frag) : Sp := fun vs H Q _ => ∃ v d, vs = [v] ∧ At K H v d ∧ ∀ H', Same H H' → Q (.bl (isRow d)) H'
theorem ok_is_row (T : Txt K mg) : FnOk P w K mg base CX0 1 T.f_is_row.f T.f_is_row.fd ["thing"] (spIsRow K) := by
  refine T.f_is_row.F.ok sc_is_row (fun vs H Q E h => ?_) (fun cdv A outer s H vs Q E hr h => ?_)
  · obtain ⟨v, d, rfl, _⟩ := h
    rfl
  obtain ⟨v, d, rfl, hv, q⟩ := h
  refine ⟨_, (pss_one (ps_ret (pe_cmpR op_in_ty (pe_callTy call_type1 (by rfl) T.b_type (by decide +kernel) (pa_cons (pv 0) pa_nil)) (pe_tup (pa_cons (pe_bltn (v := .ty "list") (by rfl) T.b_list (by decide +kernel) rfl) (pa_cons (pe_bltn (v := .ty "tuple") (by rfl) T.b_tuple (by decide +kernel) rfl) pa_nil))) (by rfl)))), ?_⟩
  walk_at "rd"
  refine ⟨v, rfl, v, d.ty, rfl, hv.ty, (by show 2 ≤ sizeLine; decide), fun p hp => ?_⟩
  refine ⟨d.ty, p, ["list", "tuple"], rfl, rfl, SqT.of upd_same, ty_known d, by decide, ?_⟩
  have e : decide (d.ty ∈ ["list", "tuple"]) = isRow d := by cases d <;> simp [Dt.ty, isRow]
  rw [e]
  exact q _ (same_upd hp)

def spIsWhole (K : PySem.W.Frag) : Sp := fun vs H Q _ => ∃ v d lo, vs = [v, .int lo] ∧ At K H v d ∧ Q (.bl (isWhole d lo)) H
theorem ok_is_whole (T : Txt K mg) : FnOk P w K mg base CX0 1 T.f_is_whole.f T.f_is_whole.fd ["thing", "low"] (spIsWhole K) := by
  refine T.f_is_whole.F.ok sc_is_whole (fun vs H Q E h => ?_) (fun cdv A outer s H vs Q E hr h => ?_)
  · obtain ⟨v, d, lo, rfl, _⟩ := h
    rfl
  obtain ⟨v, d, lo, rfl, hv, q⟩ := h
  refine ⟨_, (pss_one (ps_ret (pe_and (pe_cmpR op_isTyB (pe_callTy call_type1 (by rfl) T.b_type (by decide +kernel) (pa_cons (pv 0) pa_nil)) (pe_bltn (v := .ty "int") (by rfl) T.b_int (by decide +kernel) rfl) (nomark _)) (pe_one (pe_cmpR op_ge (pv 0) (pv 1) (nomark _)))))), ?_⟩
  walk_at "rd"
  refine ⟨v, rfl, v, d.ty, rfl, hv.ty, d.ty, "int", rfl, rfl, _, rfl, ite2 (fun e => ?_) (fun e => ?_)⟩
  · have e2 := of_decide_eq_true e
    cases d with
    | int i =>
      unfold At at hv
      subst hv
      exact ⟨_, rfl, _, rfl, i, lo, rfl, rfl, q⟩
    | _ => exact absurd e2 (by simp [Dt.ty])
  · have e2 : isWhole d lo = false := by
      cases d with
      | int i => exact absurd (decide_eq_true rfl) e
      | _ => rfl
    rw [e2] at q
    exact q

def spIsPlain (K : PySem.W.Frag) : Sp := fun vs H Q _ => ∃ v d, vs = [v] ∧ At K H v d ∧ Q (.bl (isPlain d)) H
theorem ok_is_plain (T : Txt K mg) : FnOk P w K mg base CX0 1 T.f_is_plain.f T.f_is_plain.fd ["thing"] (spIsPlain K) := by
  refine T.f_is_plain.F.ok sc_is_plain (fun vs H Q E h => ?_) (fun cdv A outer s H vs Q E hr h => ?_)
  · obtain ⟨v, d, rfl, _⟩ := h
    rfl
  obtain ⟨v, d, rfl, hv, q⟩ := h
  refine ⟨_, (pss_one (ps_ret (pe_and (pe_cmpR op_isTyB (pe_callTy call_type1 (by rfl) T.b_type (by decide +kernel) (pa_cons (pv 0) pa_nil)) (pe_bltn (v := .ty "str") (by rfl) T.b_str (by decide +kernel) rfl) (nomark _)) (pe_one (pe_cmpR op_eq (pe_m1 PySem.F.slot_str_strip PySem.F.type_str_strip mt_stripChars (pv 0) (pe_c_ALPHABET T)) pe_str (nomark _)))))), ?_⟩
  walk_at "rd"
  refine ⟨v, rfl, v, d.ty, rfl, hv.ty, d.ty, "str", rfl, rfl, _, rfl, ite2 (fun e => ?_) (fun e => ?_)⟩
  · have e2 := of_decide_eq_true e
    cases d with
    | str x =>
      unfold At at hv
      obtain ⟨rfl, hl⟩ := hv
      refine ⟨_, rfl, ⟨_, rfl⟩, _, _, rfl, rfl, (by rw [tx_len]; exact Nat.le_trans hl (by decide)), rfl, ?_⟩
      have e3 : decide (V.str (Txt.stripChars (tx x) ("abcdefghijklmnopqrstuvwxyz" : Str)) = V.str ("" : Str)) = isPlain (.str x) := by
        rw [← tx_alpha, ← tx_nil, Bool.eq_iff_iff, decide_eq_true_iff]
        have := strip_iff x alpha
        constructor
        · intro h
          exact this.mp (V.str.inj h)
        · intro h
          exact congrArg V.str (this.mpr h)
      rw [e3]
      exact q
    | _ => exact absurd e2 (by simp [Dt.ty])
  · have e2 : isPlain d = false := by
      cases d with
      | str i => exact absurd (decide_eq_true rfl) e
      | _ => rfl
    rw [e2] at q
    exact q

def spIsWithin (K : PySem.W.Frag) : Sp := fun vs H Q _ => ∃ v d lo hi, vs = [v, .int lo, .int hi] ∧ At K H v d ∧ Q (.bl (isWithin d lo hi)) H
theorem ok_is_within (T : Txt K mg) : FnOk P w K mg base CX0 2 T.f_is_within.f T.f_is_within.fd ["thing", "low", "high"] (spIsWithin K) := by
  refine T.f_is_within.F.ok sc_is_within (fun vs H Q E h => ?_) (fun cdv A outer s H vs Q E hr h => ?_)
  · obtain ⟨v, d, lo, hi, rfl, _⟩ := h
    rfl
  obtain ⟨v, d, lo, hi, rfl, hv, q⟩ := h
  refine ⟨_, (pss_one (ps_ret (pe_and (pe_call (ok_is_whole T) (hr.mono (by decide)) (by rfl) T.f_is_whole.g T.f_is_whole.F.kp T.f_is_whole.b .nil pass0 (pa_cons (pv 0) (pa_cons (pv 1) pa_nil))) (pe_one (pe_cmpR op_le (pv 0) (pv 2) (nomark _)))))), ?_⟩
  walk_at "rd"
  refine ⟨v, rfl, .int lo, rfl, v, d, lo, rfl, hv, _, rfl, ite2 (fun e => ?_) (fun e => ?_)⟩
  · cases d with
    | int i =>
      unfold At at hv
      subst hv
      rw [show isWithin (.int i) lo hi = (isWhole (.int i) lo && decide (i ≤ hi)) from rfl, e, Bool.true_and] at q
      exact ⟨_, rfl, _, rfl, i, hi, rfl, rfl, q⟩
    | _ => exact absurd e (by simp [isWhole])
  · have e2 : isWithin d lo hi = false := by
      cases d with
      | int i =>
        rw [show isWithin (.int i) lo hi = (isWhole (.int i) lo && decide (i ≤ hi)) from rfl, Bool.eq_false_iff.mpr e, Bool.false_and]
      | _ => rfl
    rw [e2] at q
    exact q

def spStr (f : Dt → Bool) (K : PySem.W.Frag) : Sp := fun vs H Q _ => ∃ v d, vs = [v] ∧ At K H v d ∧ Q (.bl (f d)) H
theorem plain_str {d : Dt} (h : isPlain d = true) : ∃ x, d = .str x ∧ x.all (alpha.contains ·) = true := by
  cases d with
  | str x => exact ⟨x, rfl, h⟩
  | _ => cases h
theorem ok_is_letter (T : Txt K mg) : FnOk P w K mg base CX0 2 T.f_is_letter.f T.f_is_letter.fd ["thing"] (spStr isLetter K) := by
  refine T.f_is_letter.F.ok sc_is_letter (fun vs H Q E h => ?_) (fun cdv A outer s H vs Q E hr h => ?_)
  · obtain ⟨v, d, rfl, _⟩ := h
    rfl
  obtain ⟨v, d, rfl, hv, q⟩ := h
  refine ⟨_, (pss_one (ps_ret (pe_and (pe_call (ok_is_plain T) (hr.mono (by decide)) (by rfl) T.f_is_plain.g T.f_is_plain.F.kp T.f_is_plain.b .nil pass0 (pa_cons (pv 0) pa_nil)) (pe_one (pe_cmpR op_eq (pe_callB (call_lenK K) (by rfl) T.b_len (by decide +kernel) (pa_cons (pv 0) pa_nil)) pe_int (nomark _)))))), ?_⟩
  walk_at "rd"
  refine ⟨v, rfl, v, d, rfl, hv, _, rfl, ite2 (fun e => ?_) (fun e => ?_)⟩
  · obtain ⟨x, rfl, hx⟩ := plain_str e
    unfold At at hv
    obtain ⟨rfl, hl⟩ := hv
    refine ⟨_, rfl, len_tx hl ⟨rfl, ?_⟩⟩
    have e3 : decide (V.int (x.length : Int) = V.int 1) = isLetter (.str x) := by
      rw [show isLetter (.str x) = (isPlain (.str x) && decide (x.length = 1)) from rfl, e, Bool.true_and, Bool.eq_iff_iff, decide_eq_true_iff, decide_eq_true_iff]
      exact ⟨fun h => by have := V.int.inj h; omega, fun h => by rw [h]; rfl⟩
    rw [e3]
    exact q
  · have e2 : isLetter d = false := by
      cases d with
      | str x =>
        rw [show isLetter (.str x) = (isPlain (.str x) && decide (x.length = 1)) from rfl, Bool.eq_false_iff.mpr e, Bool.false_and]
      | _ => rfl
    rw [e2] at q
    exact q
theorem ok_is_clip (T : Txt K mg) : FnOk P w K mg base CX0 2 T.f_is_clip.f T.f_is_clip.fd ["thing"] (spStr isClip K) := by
  refine T.f_is_clip.F.ok sc_is_clip (fun vs H Q E h => ?_) (fun cdv A outer s H vs Q E hr h => ?_)
  · obtain ⟨v, d, rfl, _⟩ := h
    rfl
  obtain ⟨v, d, rfl, hv, q⟩ := h
  refine ⟨_, (pss_one (ps_ret (pe_and (pe_call (ok_is_plain T) (hr.mono (by decide)) (by rfl) T.f_is_plain.g T.f_is_plain.F.kp T.f_is_plain.b .nil pass0 (pa_cons (pv 0) pa_nil)) (pe_one (pe_cmpR op_le (pe_callB (call_lenK K) (by rfl) T.b_len (by decide +kernel) (pa_cons (pv 0) pa_nil)) (pe_c_LONGEST_WORD T) (nomark _)))))), ?_⟩
  walk_at "rd"
  refine ⟨v, rfl, v, d, rfl, hv, _, rfl, ite2 (fun e => ?_) (fun e => ?_)⟩
  · obtain ⟨x, rfl, hx⟩ := plain_str e
    unfold At at hv
    obtain ⟨rfl, hl⟩ := hv
    refine ⟨_, rfl, len_tx hl ⟨_, _, rfl, rfl, ?_⟩⟩
    have e3 : decide ((x.length : Int) ≤ 60) = isClip (.str x) := by
      rw [show isClip (.str x) = (isPlain (.str x) && decide (x.length ≤ 60)) from rfl, e, Bool.true_and, Bool.eq_iff_iff, decide_eq_true_iff, decide_eq_true_iff]
      omega
    rw [← e3] at q
    exact q
  · have e2 : isClip d = false := by
      cases d with
      | str x =>
        rw [show isClip (.str x) = (isPlain (.str x) && decide (x.length ≤ 60)) from rfl, Bool.eq_false_iff.mpr e, Bool.false_and]
      | _ => rfl
    rw [e2] at q
    exact q
theorem ok_is_word (T : Txt K mg) : FnOk P w K mg base CX0 3 T.f_is_word.f T.f_is_word.fd ["thing"] (spStr isWord K) := by
  refine T.f_is_word.F.ok sc_is_word (fun vs H Q E h => ?_) (fun cdv A outer s H vs Q E hr h => ?_)
  · obtain ⟨v, d, rfl, _⟩ := h
    rfl
  obtain ⟨v, d, rfl, hv, q⟩ := h
  refine ⟨_, (pss_one (ps_ret (pe_and (pe_call (ok_is_clip T) (hr.mono (by decide)) (by rfl) T.f_is_clip.g T.f_is_clip.F.kp T.f_is_clip.b .nil pass0 (pa_cons (pv 0) pa_nil)) (pe_one (pe_cmpR op_ne (pv 0) pe_str (nomark _)))))), ?_⟩
  walk_at "rd"
  refine ⟨v, rfl, v, d, rfl, hv, _, rfl, ite2 (fun e => ?_) (fun e => ?_)⟩
  · cases d with
    | str x =>
      unfold At at hv
      obtain ⟨rfl, hl⟩ := hv
      refine ⟨_, rfl, rfl, ?_⟩
      have e3 : (!decide (V.str (tx x) = V.str ("" : Str))) = isWord (.str x) := by
        rw [show isWord (.str x) = (isClip (.str x) && decide (x ≠ [])) from rfl, e, Bool.true_and, ← tx_nil, Bool.eq_iff_iff, Bool.not_eq_true', decide_eq_false_iff_not, decide_eq_true_iff, tx_eq]
      rw [e3]
      exact q
    | _ => cases e
  · have e2 : isWord d = false := by
      cases d with
      | str x =>
        rw [show isWord (.str x) = (isClip (.str x) && decide (x ≠ [])) from rfl, Bool.eq_false_iff.mpr e, Bool.false_and]
      | _ => rfl
    rw [e2] at q
    exact q

/-! ## pieces -/
def spIsPiece (f : Dt → Bool) (K : PySem.W.Frag) : Sp := fun vs H Q _ => ∃ v d, vs = [v] ∧ At K H v d ∧ ∀ H', Same H H' → Q (.bl (f d)) H'
theorem ok_is_piece (T : Txt K mg) : FnOk P w K mg base CX0 4 T.f_is_piece.f T.f_is_piece.fd ["thing"] (spIsPiece isPiece K) := by
  refine T.f_is_piece.F.ok sc_is_piece (fun vs H Q E h => ?_) (fun cdv A outer s H vs Q E hr h => ?_)
  · obtain ⟨v, d, rfl, _⟩ := h
    rfl
  obtain ⟨v, d, rfl, hv, q⟩ := h
  refine ⟨_, (pss_one (ps_ret (pe_and (pe_call (ok_is_row T) (hr.mono (by decide)) (by rfl) T.f_is_row.g T.f_is_row.F.kp T.f_is_row.b .nil pass0 (pa_cons (pv 0) pa_nil)) (pe_and (pe_cmpR op_eq (pe_callB (call_lenK K) (by rfl) T.b_len (by decide +kernel) (pa_cons (pv 0) pa_nil)) pe_int (nomark _)) (pe_and (pe_call (ok_is_word T) (hr.mono (by decide)) (by rfl) T.f_is_word.g T.f_is_word.F.kp T.f_is_word.b .nil pass0 (pa_cons (pe_ix ix_seq (pv 0) pe_int (fun _ _ => rfl)) pa_nil)) (pe_one (pe_call (ok_is_whole T) (hr.mono (by decide)) (by rfl) T.f_is_whole.g T.f_is_whole.F.kp T.f_is_whole.b .nil pass0 (pa_cons (pe_ix ix_seq (pv 0) pe_int (fun _ _ => rfl)) (pa_cons pe_int pa_nil))))))))), ?_⟩
  walk_at "rd"
  refine ⟨v, rfl, v, d, rfl, hv, fun H1 s1 => ⟨_, rfl, ite2 (fun e => ?_) (fun e => ?_)⟩⟩
  · obtain ⟨a, xs, rfl, hrow, hit⟩ := at_row hv e
    refine ⟨_, rfl, len_row (hrow.same s1) ⟨rfl, _, rfl, ite2 (fun e2 => ?_) (fun e2 => ?_)⟩⟩
    · have h2 : xs.length = 2 := by have := V.int.inj (of_decide_eq_true e2); omega
      obtain ⟨x0, x1, rfl⟩ : ∃ x0 x1, xs = [x0, x1] := by
        match xs, h2 with
        | [x0, x1], _ => exact ⟨x0, x1, rfl⟩
      obtain ⟨d0, g0, a0⟩ := hit.at (i := 0) rfl
      obtain ⟨d1, g1, a1⟩ := hit.at (i := 1) rfl
      have hd : d.items = [d0, d1] := by
        have hl : d.items.length = 2 := by rw [← hit.len]; rfl
        match hm : d.items, hl with
        | [y0, y1], _ =>
          rw [hm] at g0 g1
          cases g0
          cases g1
          rfl
      refine ⟨_, rfl, ix_row (hrow.same s1) (atI_nat (j := 0) rfl) ⟨x0, d0, rfl, At.same s1 _ _ a0, _, rfl, ite2 (fun e3 => ?_) (fun e3 => ?_)⟩⟩
      · refine ⟨_, rfl, ix_row (hrow.same s1) (atI_nat (j := 1) rfl) ⟨x1, d1, 1, rfl, At.same s1 _ _ a1, ?_⟩⟩
        have e4 : isPiece d = isWhole d1 1 := by
          unfold isPiece
          rw [hd, e, Bool.true_and]
          show (isWord d0 && isWhole d1 1) = _
          rw [e3, Bool.true_and]
        rw [e4] at q
        exact q _ s1
      · have e4 : isPiece d = false := by
          unfold isPiece
          rw [hd, e, Bool.true_and]
          show (isWord d0 && isWhole d1 1) = _
          rw [Bool.eq_false_iff.mpr e3, Bool.false_and]
        rw [e4] at q
        exact q _ s1
    · have e4 : isPiece d = false := by
        unfold isPiece
        rw [e, Bool.true_and]
        split
        · rename_i y0 y1 hy
          exfalso
          refine e2 (decide_eq_true ?_)
          rw [hit.len, hy]
          rfl
        · rfl
      rw [e4] at q
      exact q _ s1
  · have e2 : isPiece d = false := by
      unfold isPiece
      rw [Bool.eq_false_iff.mpr e, Bool.false_and]
    rw [e2] at q
    exact q _ s1

theorem ok_is_text (T : Txt K mg) : FnOk P w K mg base CX0 5 T.f_is_text.f T.f_is_text.fd ["thing"] (spIsPiece isText K) := by
  refine T.f_is_text.F.ok sc_is_text (fun vs H Q E h => ?_) (fun cdv A outer s H vs Q E hr h => ?_)
  · obtain ⟨v, d, rfl, _⟩ := h
    rfl
  obtain ⟨v, d, rfl, hv, q⟩ := h
  refine ⟨_, (pss_cons (ps_if (PW.pt (pw_or (pt_not (pt_val (pe_call (ok_is_row T) (hr.mono (by decide)) (by rfl) T.f_is_row.g T.f_is_row.F.kp T.f_is_row.b .nil pass0 (pa_cons (pv 0) pa_nil)))) (pw_or1 (pt_cmpR op_gt (pe_callB (call_lenK K) (by rfl) T.b_len (by decide +kernel) (pa_cons (pv 0) pa_nil)) (pe_c_MOST_PIECES T) (nomark _))))) (pss_one (ps_ret pe_bl)) pss_nil)
      (pss_cons (ps_set (i := 1) sc_is_text.nd rfl (.inl rfl) pe_int)
      (pss_cons (ps_for PassesOwn.never rfl (pi_seq (pv 0)) (pg_name (i := 2) sc_is_text.nd rfl (.inl rfl))
        (pss_cons (ps_if (pt_not (pt_val (pe_call (ok_is_piece T) (hr.mono (by decide)) (by rfl) T.f_is_piece.g T.f_is_piece.F.kp T.f_is_piece.b .nil pass0 (pa_cons (pv 2) pa_nil)))) (pss_one (ps_ret pe_bl)) pss_nil)
      (pss_one (ps_aug (i := 1) sc_is_text.nd rfl (.inl rfl) (pe_op op_mul (pe_callB (call_lenK K) (by rfl) T.b_len (by decide +kernel) (pa_cons (pe_ix ix_seq (pv 2) pe_int (fun _ _ => rfl)) pa_nil)) (pe_ix ix_seq (pv 2) pe_int (fun _ _ => rfl))) ip_add))))
      (pss_one (ps_ret (pe_cmpR op_le (pv 1) (pe_c_MOST_LETTERS T) (nomark _))))))), ?_⟩
  walk_at "rd"
  refine ⟨v, rfl, v, d, rfl, hv, fun H1 s1 => ⟨_, rfl, ?_⟩⟩
  cases hrw : isRow d with
  | false =>
    refine iteT (iteT ?_)
    have e4 : isText d = false := by unfold isText; rw [hrw]; rfl
    rw [e4] at q
    exact q _ s1
  | true =>
    obtain ⟨a, xs, rfl, hrow, hit⟩ := at_row hv hrw
    refine iteF ⟨_, rfl, len_row (hrow.same s1) ⟨_, _, rfl, rfl, _, rfl, ite2 (fun e2 => ?_) (fun e2 => ?_)⟩⟩
    · have e4 : isText d = false := by
        unfold isText
        have := of_decide_eq_true e2
        rw [hit.len] at this
        rw [decide_eq_false (show ¬ d.items.length ≤ 40 by omega), Bool.and_false]
        rfl
      rw [e4] at q
      exact q _ s1
    have h40 : d.items.length ≤ 40 := by
      rw [← hit.len]
      have : ¬ (40 < (xs.length : Int)) := fun z => e2 (decide_eq_true z)
      omega
    -- many = 0; the loop
    refine for_row (K := K) (a := a) (xs := xs) rfl (hrow.same s1) (Same.refl _)
      (fun i σ H2 => ∃ y, σ = [some (.ref a), some (.int ((d.items.map pieceSize).take i).sum), y] ∧ Same H1 H2 ∧ (d.items.take i).all isPiece = true)
      ⟨_, rfl, Same.refl _, rfl⟩ (fun i σ H2 _ ⟨_, _, s2, _⟩ => s2) ?_ ?_
    · rintro i x σ H2 hx ⟨y, rfl, s2, hall⟩
      obtain ⟨c, hc, ac⟩ := hit.at hx
      walk_at "rd"
      refine ⟨x, rfl, x, c, rfl, At.same (s1.trans s2) _ _ ac, fun H3 s3 => ⟨_, rfl, ?_⟩⟩
      cases hp : isPiece c with
      | false =>
        refine iteT ?_
        have e4 : isText d = false := by
          unfold isText
          have : d.items.all isPiece = false := by
            rw [List.all_eq_false]
            exact ⟨c, List.mem_of_getElem? hc, by rw [hp]; exact Bool.false_ne_true⟩
          rw [this, Bool.and_false]
          rfl
        rw [e4] at q
        exact q _ ((s1.trans s2).trans s3)
      | true =>
        refine iteF ?_
        obtain ⟨wd, n, e, hrc, hw, hn⟩ := isPiece_of hp
        obtain ⟨b, ys, rfl, rowb, itb⟩ := at_row (At.same ((s1.trans s2).trans s3) _ _ ac) hrc
        rw [e] at itb
        unfold Ats at itb
        obtain ⟨v1, us, rfl, g1, itb⟩ := itb
        unfold Ats at itb
        obtain ⟨v2, us, rfl, g2, itb⟩ := itb
        unfold Ats at itb
        subst itb
        unfold At at g1 g2
        obtain ⟨rfl, hl⟩ := g1
        subst g2
        have hb : -(2 ^ 64) < (wd.length : Int) ∧ (wd.length : Int) < 2 ^ 64 := by have := hw.2.2; omega
        refine ⟨_, rfl, _, rfl, ix_row rowb (atI_nat (j := 0) rfl) (len_tx hl ⟨_, rfl, ix_row rowb (atI_nat (j := 1) rfl) ⟨_, _, rfl, rfl, .inl hb, ?_⟩⟩)⟩
        refine ⟨_, _, rfl, rfl, some (.ref b), ?_, s2.trans s3, all_take_succ hall hc hp⟩
        have hz : (d.items.map pieceSize)[i]? = some ((wd.length : Int) * n) := by
          rw [List.getElem?_map, hc]
          show some (pieceSize c) = _
          unfold pieceSize
          rw [e]
        rw [isum_take hz]
        rfl
    · rintro σ H2 ⟨y, rfl, s2, hall⟩
      have hxl := hit.len
      rw [hxl, List.take_of_length_le (Nat.le_refl _)] at hall
      refine ⟨_, rfl, _, _, rfl, rfl, ?_⟩
      rw [hxl, List.take_of_length_le (by rw [List.length_map]; exact Nat.le_refl _)]
      have e4 : isText d = decide ((d.items.map pieceSize).sum ≤ 1000000000000000000000000000000) := by
        unfold isText
        rw [hrw, decide_eq_true h40, hall]
        rfl
      rw [e4] at q
      exact q _ (s1.trans s2)

def spCheckText (K : PySem.W.Frag) : Sp := fun vs H Q _ => ∃ v d, vs = [v] ∧ At K H v d ∧ isText d = true ∧ ∀ H', Same H H' → Q .non H'
theorem ok_check_text (T : Txt K mg) : FnOk P w K mg base CX0 6 T.f_check_text.f T.f_check_text.fd ["thing"] (spCheckText K) := by
  refine T.f_check_text.F.ok sc_check_text (fun vs H Q E h => ?_) (fun cdv A outer s H vs Q E hr h => ?_)
  · obtain ⟨v, d, rfl, _⟩ := h
    rfl
  obtain ⟨v, d, rfl, hv, ht, q⟩ := h
  refine ⟨_, (pss_one (ps_if (pt_not (pt_val (pe_call (ok_is_text T) (hr.mono (by decide)) (by rfl) T.f_is_text.g T.f_is_text.F.kp T.f_is_text.b .nil pass0 (pa_cons (pv 0) pa_nil)))) (pss_one ps_never) pss_nil)), ?_⟩
  walk_at "rd"
  refine ⟨v, rfl, v, d, rfl, hv, fun H1 s1 => ⟨_, rfl, ?_⟩⟩
  rw [ht]
  exact iteF (q _ s1)
def spCheckLetter (K : PySem.W.Frag) : Sp := fun vs H Q _ => ∃ c, vs = [.str (tx [c])] ∧ alpha.contains c = true ∧ Q .non H
theorem ok_check_letter (T : Txt K mg) : FnOk P w K mg base CX0 3 T.f_check_letter.f T.f_check_letter.fd ["thing"] (spCheckLetter K) := by
  refine T.f_check_letter.F.ok sc_check_letter (fun vs H Q E h => ?_) (fun cdv A outer s H vs Q E hr h => ?_)
  · obtain ⟨c, rfl, _⟩ := h
    rfl
  obtain ⟨c, rfl, hc, q⟩ := h
  refine ⟨_, (pss_one (ps_if (pt_not (pt_val (pe_call (ok_is_letter T) (hr.mono (by decide)) (by rfl) T.f_is_letter.g T.f_is_letter.F.kp T.f_is_letter.b .nil pass0 (pa_cons (pv 0) pa_nil)))) (pss_one ps_never) pss_nil)), ?_⟩
  walk_at "rd"
  refine ⟨_, rfl, _, .str [c], rfl, by unfold At; exact ⟨rfl, (by show 1 ≤ 1000000; decide)⟩, _, rfl, ?_⟩
  have e : isLetter (.str [c]) = true := by
    show ([c].all (alpha.contains ·) && decide ([c].length = 1)) = true
    rw [List.all_cons, hc]
    rfl
  rw [e]
  exact iteF q

/-! ## spans -/
def spSpansOf (K : PySem.W.Frag) : Sp := fun vs H Q _ => ∃ v ps, vs = [v] ∧ TextAt K H v ps ∧ Good ps ∧ ∀ H' a, Same H H' → SpansAt H' a (spansOf 0 ps) → Q (.ref a) H'
theorem ok_spans_of (T : Txt K mg) : FnOk P w K mg base CX0 1 T.f_spans_of.f T.f_spans_of.fd ["text"] (spSpansOf K) := by
  refine T.f_spans_of.F.ok sc_spans_of (fun vs H Q E h => ?_) (fun cdv A outer s H vs Q E hr h => ?_)
  · obtain ⟨v, d, rfl, _⟩ := h
    rfl
  obtain ⟨v, ps, rfl, hv, hg, q⟩ := h
  obtain ⟨a, xs, rfl, hrow, hps⟩ := hv
  refine ⟨_, (pss_cons (ps_set (i := 1) sc_spans_of.nd rfl (.inl rfl) (pe_lst pa_nil))
      (pss_cons (ps_set (i := 2) sc_spans_of.nd rfl (.inl rfl) pe_int)
      (pss_cons (ps_for PassesOwn.never rfl (pi_seq (pv 0)) (pg_seq rfl (pgs_cons (pg_name (i := 3) sc_spans_of.nd rfl (.inl rfl)) (pgs_cons (pg_name (i := 4) sc_spans_of.nd rfl (.inl rfl)) pgs_nil)))
        (pss_cons (ps_set (i := 5) sc_spans_of.nd rfl (.inl rfl) (pe_op op_add (pv 2) (pe_op op_mul (pe_callB (call_lenK K) (by rfl) T.b_len (by decide +kernel) (pa_cons (pv 3) pa_nil)) (pv 4))))
      (pss_cons (ps_expr (pe_bm PySem.F.plainAttrs_list PySem.F.slot_list_append PySem.F.type_list_append mt_append (pv 1) (pa_cons (pe_tup (pa_cons (pv 2) (pa_cons (pv 5) (pa_cons (pv 3) pa_nil)))) pa_nil)))
      (pss_one (ps_set (i := 2) sc_spans_of.nd rfl (.inl rfl) (pv 5))))))
      (pss_one (ps_ret (pv 1)))))), ?_⟩
  walk_at "rd"
  refine ⟨Nat.zero_le _, fun o no => ?_⟩
  have s1 : Same H (upd H o (.lst [])) := same_upd no
  refine for_row (K := K) (a := a) (xs := xs) rfl hrow s1
    (fun i σ H2 => ∃ y1 y2 y3, σ = [some (.ref a), some (.ref o), some (.int (size (ps.take i) : Nat)), y1, y2, y3] ∧ Same H H2 ∧ SpansAt H2 o ((spansOf 0 ps).take i))
    ⟨none, none, none, rfl, s1, [], upd_same, .nil⟩ (fun i σ H2 _ ⟨_, _, _, _, s2, _⟩ => s2) ?_ ?_
  · rintro i x σ H2 hx ⟨y1, y2, y3, rfl, s2, us, ho, hus⟩
    obtain ⟨p, hp, b, rfl, rowb⟩ := prd_at hps hx
    have hb := hg.ok p (List.mem_of_getElem? hp)
    refine gSeq.row (rowb.same s2) rfl ?_
    walk_at "rd"
    have hl : p.1.length ≤ 60 := hb.1.2.2
    refine ⟨_, _, rfl, _, _, rfl, rfl, ?_⟩
    refine ⟨_, rfl, _, rfl, len_tx (by omega) ⟨_, rfl, _, _, rfl, rfl, .inl ⟨by omega, by omega⟩, _, _, rfl, rfl, ?_⟩⟩
    refine ⟨_, rfl, .inl ⟨rfl, _, SqL.of ho⟩, _, rfl, _, rfl, _, rfl, (by show 3 ≤ sizeLine; decide), fun t nt => ?_⟩
    have hot : o ≠ t := ne_of_none ho nt
    have e : ((size (ps.take (i + 1)) : Nat) : Int) = ((size (ps.take i) : Nat) : Int) + (p.1.length : Int) * (p.2 : Int) := by rw [size_take_succ ps hp, Int.natCast_add, Int.natCast_mul]
    have hxl := (List.getElem?_eq_some_iff.mp hx).1
    have hul : us.length ≤ 40 := by rw [prd_len hus, List.length_take, spansOf_len]; have := hg.few; omega
    refine ⟨_, _, _, rfl, rfl, by rw [upd_ne hot]; exact ho, Nat.lt_of_le_of_lt hul (by decide), _, rfl, some (.str (tx p.1)), some (.int p.2), some (.int (((size (ps.take i) : Nat) : Int) + (p.1.length : Int) * (p.2 : Int))), by rw [e]; rfl, ?_, ?_⟩
    · exact same_mut (s2.trans (same_upd nt)) no
    · refine ⟨_, upd_same, ?_⟩
      rw [List.take_add_one, spansOf_get ps 0 i p hp, Nat.zero_add]
      have ho2 : (upd H2 t (.tup [.int ((size (ps.take i) : Nat) : Int), .int (((size (ps.take i) : Nat) : Int) + (p.1.length : Int) * (p.2 : Int)), .str (tx p.1)])) o = some (.lst us) := by rw [upd_ne hot]; exact ho
      refine prd_snoc (prd_same (fun _ _ k => SpanAt.upd ho2 (SpanAt.same (same_upd nt) k)) hus) ?_
      refine SpanAt.upd ho2 ⟨t, rfl, ?_⟩
      rw [upd_same]
      show some (HO.tup [.int ((size (ps.take i) : Nat) : Int), .int (((size (ps.take i) : Nat) : Int) + (p.1.length : Int) * (p.2 : Int)), .str (tx p.1)]) = some (HO.tup [.int ((size (ps.take i) : Nat) : Int), .int ((size (ps.take i) + p.1.length * p.2 : Nat) : Int), .str (tx p.1)])
      rw [Int.natCast_add, Int.natCast_mul]
  · rintro σ H2 ⟨y1, y2, y3, rfl, s2, hsp⟩
    refine ⟨_, rfl, q _ _ s2 ?_⟩
    rwa [List.take_of_length_le (by rw [spansOf_len, prd_len hps]; exact Nat.le_refl _)] at hsp

def spEndOf (K : PySem.W.Frag) : Sp := fun vs H Q _ => ∃ a ps, vs = [.ref a] ∧ SpansAt H a (spansOf 0 ps) ∧ Q (.int (size ps : Nat)) H
theorem ok_end_of (T : Txt K mg) : FnOk P w K mg base CX0 1 T.f_end_of.f T.f_end_of.fd ["spans"] (spEndOf K) := by
  refine T.f_end_of.F.ok sc_end_of (fun vs H Q E h => ?_) (fun cdv A outer s H vs Q E hr h => ?_)
  · obtain ⟨a, ps, rfl, _⟩ := h
    rfl
  obtain ⟨a, ps, rfl, ⟨us, ha, hus⟩, q⟩ := h
  refine ⟨_, (pss_one (ps_ret (pe_ifExp (pt_truth (pv 0) (by intro _; rfl)) (pe_ix ix_seq (pe_ix ix_seq (pv 0) (pe_un un_neg pe_int) (fun _ _ => rfl)) pe_int (fun _ _ => rfl)) pe_int))), ?_⟩
  walk_at "rd"
  refine ⟨_, rfl, _, .inl ⟨us, SqL.of ha, rfl⟩, ?_⟩
  by_cases hps : ps = []
  · subst hps
    cases hus
    exact iteF q
  · obtain ⟨p, s0, h1, h2⟩ := spansOf_last hps
    have hne : us ≠ [] := fun z => by
      subst z
      cases hus2 : spansOf 0 ps with
      | nil => rw [hus2] at h2; cases h2
      | cons x r => rw [hus2] at hus; cases hus
    have e : (!us.isEmpty) = true := by cases us with
      | nil => exact absurd rfl hne
      | cons _ _ => rfl
    rw [e]
    refine iteT ⟨_, rfl, _, rfl, ?_⟩
    obtain ⟨ys, x, rfl⟩ : ∃ ys x, us = ys ++ [x] := ⟨us.dropLast, us.getLast hne, (List.dropLast_concat_getLast hne).symm⟩
    refine ix_lst ha (atI_last ys x) ?_
    have hx : (ys ++ [x])[ys.length]? = some x := by simp
    obtain ⟨y, hy, b, rfl, hb⟩ := prd_at hus hx
    have hl := prd_len hus
    have ey : y = (s0, size ps, p.1) := by
      rw [List.getLast?_eq_getElem?, ← hl] at h2
      have : (ys ++ [V.ref b]).length - 1 = ys.length := by simp
      rw [this, hy] at h2
      exact Option.some.inj h2
    subst ey
    exact ix_row (.inr (SqT.of hb)) (atI_nat (j := 1) rfl) q

/-! ## words again and again -/
def spStretch (K : PySem.W.Frag) : Sp := fun vs H Q _ => ∃ (x : List Nat) (a m : Nat), vs = [.str (tx x), .int a, .int m] ∧ x ≠ [] ∧ x.length ≤ 60 ∧ m ≤ 2000 ∧ Q (.str (tx (cyc x a m))) H
theorem ok_stretch (T : Txt K mg) : FnOk P w K mg base CX0 1 T.f_stretch.f T.f_stretch.fd ["word", "at", "many"] (spStretch K) := by
  refine T.f_stretch.F.ok sc_stretch (fun vs H Q E h => ?_) (fun cdv A outer s H vs Q E hr h => ?_)
  · obtain ⟨x, a, m, rfl, _⟩ := h
    rfl
  obtain ⟨x, a, m, rfl, hx, hl, hm, q⟩ := h
  have hp : 0 < x.length := List.length_pos_iff.mpr hx
  refine ⟨_, (pss_cons (ps_set (i := 3) sc_stretch.nd rfl (.inl rfl) (pe_op op_mod (pv 1) (pe_callB (call_lenK K) (by rfl) T.b_len (by decide +kernel) (pa_cons (pv 0) pa_nil))))
      (pss_cons (ps_set (i := 4) sc_stretch.nd rfl (.inl rfl) (pe_op op_mul_str (pv 0) (pe_op op_add (pe_op op_fdiv (pe_op op_add (pv 3) (pv 2)) (pe_callB (call_lenK K) (by rfl) T.b_len (by decide +kernel) (pa_cons (pv 0) pa_nil))) pe_int)))
      (pss_one (ps_ret (pe_slice sl_str (pv 4) (po_some (pv 3)) (po_some (pe_op op_add (pv 3) (pv 2)))))))), ?_⟩
  walk_at "rd"
  refine ⟨_, rfl, _, rfl, len_tx (by omega) ⟨_, _, rfl, rfl, by omega, ?_⟩⟩
  refine ⟨_, rfl, _, rfl, _, rfl, _, _, rfl, rfl, _, rfl, len_tx (by omega) ⟨_, _, rfl, rfl, ⟨by omega, by omega⟩, _, _, rfl, rfl, ?_⟩⟩
  have hmod := Nat.mod_lt a hp
  have e1 : ((a : Int) % (x.length : Int) + (m : Int)) / (x.length : Int) + 1 = (((a % x.length + m) / x.length + 1 : Nat) : Int) := by
    rw [Int.natCast_add, Int.natCast_ediv, Int.natCast_add, Int.natCast_emod]
    rfl
  have hb : (a % x.length + m) / x.length + 1 ≤ 2061 := by
    have := Nat.div_le_self (a % x.length + m) x.length
    omega
  refine ⟨tx x, _, rfl, congrArg V.int e1, mul_ok 60 2061 hl hb (by decide) (by decide), ?_⟩
  rw [mul_tx]
  have e2 : (a : Int) % (x.length : Int) = ((a % x.length : Nat) : Int) := (Int.natCast_emod a x.length).symm
  refine ⟨_, rfl, _, rfl, _, rfl, _, rfl, _, rfl, _, _, rfl, rfl, _, rfl, tx (rep x ((a % x.length + m) / x.length + 1)), rfl, ?_, ?_⟩
  · rw [tx_len, rep_len]
    exact Nat.le_trans (Nat.mul_le_mul hb hl) (by decide)
  · show Q (.str (cutS (tx (rep x _)) (some ((a : Int) % (x.length : Int))) (some ((a : Int) % (x.length : Int) + (m : Int))))) H
    rw [e2, show ((a % x.length : Nat) : Int) + (m : Int) = ((a % x.length + m : Nat) : Int) from (Int.natCast_add _ _).symm, cut_nn, Nat.add_sub_cancel_left]
    exact q

def spAmong (K : PySem.W.Frag) : Sp := fun vs H Q _ => ∃ (x : List Nat) (c m : Nat), vs = [.str (tx x), .str (tx [c]), .int m] ∧ x ≠ [] ∧ x.length ≤ 60 ∧ ∀ H', Same H H' → Q (.int ((x.count c * (m / x.length) + (x.take (m % x.length)).count c : Nat) : Int)) H'
theorem ok_among (T : Txt K mg) : FnOk P w K mg base CX0 1 T.f_among.f T.f_among.fd ["word", "sign", "many"] (spAmong K) := by
  refine T.f_among.F.ok sc_among (fun vs H Q E h => ?_) (fun cdv A outer s H vs Q E hr h => ?_)
  · obtain ⟨x, a, m, rfl, _⟩ := h
    rfl
  obtain ⟨x, c, m, rfl, hx, hl, q⟩ := h
  have hp : 0 < x.length := List.length_pos_iff.mpr hx
  refine ⟨_, (pss_cons (ps_asg (pe_callB call_divmod (by rfl) T.b_divmod (by decide +kernel) (pa_cons (pv 2) (pa_cons (pe_callB (call_lenK K) (by rfl) T.b_len (by decide +kernel) (pa_cons (pv 0) pa_nil)) pa_nil))) (pg_tup rfl (pgs_cons (pg_name (i := 3) sc_among.nd rfl (.inl rfl)) (pgs_cons (pg_name (i := 4) sc_among.nd rfl (.inl rfl)) pgs_nil))))
      (pss_one (ps_ret (pe_op op_add (pe_op op_mul (pe_m1 PySem.F.slot_str_count PySem.F.type_str_count mt_count (pv 0) (pv 1)) (pv 3)) (pe_m1 PySem.F.slot_str_count PySem.F.type_str_count mt_count (pe_slice sl_str (pv 0) po_none (po_some (pv 4))) (pv 1)))))), ?_⟩
  walk_at "rd"
  refine ⟨_, rfl, _, rfl, len_tx (by omega) ⟨_, _, rfl, ⟨by omega, by omega⟩, fun t nt => ?_⟩⟩
  have e2 : (m : Int) % (x.length : Int) = ((m % x.length : Nat) : Int) := (Int.natCast_emod m x.length).symm
  have hcount : x.count c ≤ 60 := Nat.le_trans List.count_le_length hl
  refine ⟨t, _, rfl, SqT.of upd_same, rfl, _, _, rfl, _, _, rfl, rfl, ?_⟩
  refine ⟨_, rfl, ⟨_, rfl⟩, _, rfl, _, _, rfl, rfl, _, rfl, _, _, rfl, rfl, .inl ?_, ?_⟩
  · rw [count_tx]
    omega
  · refine ⟨_, rfl, _, rfl, _, rfl, tx x, rfl, by rw [tx_len]; exact Nat.le_trans hl (by decide), ⟨_, rfl⟩, _, rfl, _, _, rfl, rfl, _, _, rfl, rfl, ?_⟩
    show Q (.int (Txt.count (tx x) (tx [c]) * ((m : Int) / (x.length : Int)) + Txt.count (cutS (tx x) none (some ((m : Int) % (x.length : Int)))) (tx [c]))) _
    rw [e2, cut__n, count_tx, count_tx, ← Int.natCast_ediv, ← Int.natCast_mul, ← Int.natCast_add]
    exact q _ (same_upd nt)

/-! ## looks -/
def GoodW (ps : Pcs) : Prop := ∀ p ∈ ps, p.1 ≠ [] ∧ p.1.length ≤ 60
theorem good_w {ps : Pcs} (h : Good ps) : GoodW ps := fun p hp => ⟨(h.ok p hp).1.2.1, (h.ok p hp).1.2.2⟩
def spLook (K : PySem.W.Frag) : Sp := fun vs H Q _ => ∃ a ps place many, vs = [.ref a, .int ((place : Nat) : Int), .int ((many : Nat) : Int)] ∧ SpansAt H a (spansOf 0 ps) ∧ GoodW ps ∧ ps.length ≤ 40 ∧ many ≤ 2000 ∧
  ∀ H', Same H H' → Q (.str (tx (((spell ps).drop place).take many))) H'
theorem sum_le_len : ∀ (ss : List (List Nat)), (ss.map (·.length)).sum = ss.flatten.length
  | [] => rfl
  | a :: r => by rw [List.map_cons, List.sum_cons, sum_le_len r, List.flatten_cons, List.length_append]
theorem ok_look (T : Txt K mg) : FnOk P w K mg base CX0 2 T.f_look.f T.f_look.fd ["spans", "place", "many"] (spLook K) := by
  refine T.f_look.F.ok sc_look (fun vs H Q E h => ?_) (fun cdv A outer s H vs Q E hr h => ?_)
  · obtain ⟨a, ps, place, many, rfl, _⟩ := h
    rfl
  obtain ⟨a, ps, place, many, rfl, ⟨us, ha, hus⟩, hg, hle, hm, q⟩ := h
  refine ⟨_, (pss_cons (ps_set (i := 3) sc_look.nd rfl (.inl rfl) (pe_lst pa_nil))
      (pss_cons (ps_for PassesOwn.never rfl (pi_list (pv 0)) (pg_tup rfl (pgs_cons (pg_name (i := 4) sc_look.nd rfl (.inl rfl)) (pgs_cons (pg_name (i := 5) sc_look.nd rfl (.inl rfl)) (pgs_cons (pg_name (i := 6) sc_look.nd rfl (.inl rfl)) pgs_nil))))
        (pss_cons (ps_set (i := 7) sc_look.nd rfl (.inl rfl) (pe_callB (call_max2 rfl) (by rfl) T.b_max (by decide +kernel) (pa_cons (pv 4) (pa_cons (pv 1) pa_nil))))
      (pss_cons (ps_set (i := 8) sc_look.nd rfl (.inl rfl) (pe_callB (call_min2 rfl) (by rfl) T.b_min (by decide +kernel) (pa_cons (pv 5) (pa_cons (pe_op op_add (pv 1) (pv 2)) pa_nil))))
      (pss_one (ps_if (pt_cmpR op_lt (pv 7) (pv 8) (nomark _)) (pss_one (ps_expr (pe_bm PySem.F.plainAttrs_list PySem.F.slot_list_append PySem.F.type_list_append mt_append (pv 3) (pa_cons (pe_call (ok_stretch T) (hr.mono (by decide)) (by rfl) T.f_stretch.g T.f_stretch.F.kp T.f_stretch.b .nil pass0 (pa_cons (pv 6) (pa_cons (pe_op op_sub (pv 7) (pv 4)) (pa_cons (pe_op op_sub (pv 8) (pv 7)) pa_nil)))) pa_nil)))) pss_nil)))))
      (pss_one (ps_ret (pe_join pe_str (pv 3)))))), ?_⟩
  walk_at "rd"
  refine ⟨Nat.zero_le _, fun o no => ?_⟩
  have s1 : Same H (upd H o (.lst [])) := same_upd no
  refine ⟨_, rfl, a, rfl, ⟨_, SqL.of (s1 _ _ ha)⟩, for_list (K := K) (a := a) (xs := us)
    (fun i σ H2 => ∃ y1 y2 y3 y4 y5 ss, σ = [some (.ref a), some (.int (place : Int)), some (.int (many : Int)), some (.ref o), y1, y2, y3, y4, y5] ∧ Same H H2 ∧ H2 o = some (.lst (ss.map fun x => V.str (tx x))) ∧ ss.length ≤ i ∧ ss.flatten = ((spell (ps.take i)).drop place).take many)
    ⟨none, none, none, none, none, [], rfl, s1, upd_same, Nat.le_refl _, by simp [spell]⟩ (fun i σ H2 _ ⟨_, _, _, _, _, _, _, s2, _⟩ => SqL.of (s2 _ _ ha)) ?_ ?_⟩
  · rintro i x σ H2 hx ⟨y1, y2, y3, y4, y5, ss, rfl, s2, ho, hsl, hss⟩
    obtain ⟨sp, hsp, b, rfl, hb⟩ := prd_at hus hx
    obtain ⟨p, hp, rfl⟩ := spansOf_at ps hsp
    have hgp := hg p (List.mem_of_getElem? hp)
    have hpos : 0 < p.1.length := List.length_pos_iff.mpr hgp.1
    have hsz : (spell (ps.take i)).length = size (ps.take i) := spell_len _
    have hxl := (List.getElem?_eq_some_iff.mp hx).1
    have hul := prd_len hus
    rw [spansOf_len] at hul
    have happ := look_app (spell (ps.take i)) (rep p.1 p.2) place many
    rw [← spell_take_succ hp, rep_len, hsz] at happ
    walk_at "rd"
    refine ⟨b, _, rfl, SqT.of (s2 _ _ hb), rfl, _, _, rfl, _, _, rfl, _, _, rfl, rfl, ?_⟩
    -- low, high
    have hmul : p.2 * p.1.length = p.1.length * p.2 := Nat.mul_comm _ _
    have elow : (if (place : Int) > ((size (ps.take i) : Nat) : Int) then (place : Int) else ((size (ps.take i) : Nat) : Int)) = ((max (size (ps.take i)) place : Nat) : Int) := by
      split <;> omega
    have ehigh : (if (place : Int) + (many : Int) < ((size (ps.take i) + p.1.length * p.2 : Nat) : Int) then (place : Int) + (many : Int) else ((size (ps.take i) + p.1.length * p.2 : Nat) : Int)) = ((min (size (ps.take i) + p.1.length * p.2) (place + many) : Nat) : Int) := by
      split <;> omega
    refine ⟨_, rfl, _, rfl, _, _, rfl, ?_⟩
    rw [elow]
    refine ⟨_, rfl, _, rfl, _, rfl, _, _, rfl, rfl, _, _, rfl, ?_⟩
    rw [ehigh]
    refine ⟨_, rfl, _, rfl, _, _, rfl, rfl, _, rfl, ite2 (fun e => ?_) (fun e => ?_)⟩
    · have hlt : max (size (ps.take i)) place < min (size (ps.take i) + p.1.length * p.2) (place + many) := by
        have := of_decide_eq_true e
        omega
      have e1 : ((max (size (ps.take i)) place : Nat) : Int) - ((size (ps.take i) : Nat) : Int) = ((max (size (ps.take i)) place - size (ps.take i) : Nat) : Int) := by omega
      have e2 : ((min (size (ps.take i) + p.1.length * p.2) (place + many) : Nat) : Int) - ((max (size (ps.take i)) place : Nat) : Int) = ((min (size (ps.take i) + p.1.length * p.2) (place + many) - max (size (ps.take i)) place : Nat) : Int) := by omega
      refine ⟨_, rfl, .inl ⟨rfl, _, SqL.of ho⟩, _, rfl, _, rfl, _, rfl, _, _, rfl, rfl, _, rfl, _, rfl, _, _, rfl, rfl, ?_⟩
      refine ⟨p.1, max (size (ps.take i)) place - size (ps.take i), min (size (ps.take i) + p.1.length * p.2) (place + many) - max (size (ps.take i)) place, ?_, hgp.1, hgp.2, by omega, ?_⟩
      · show [V.str (tx p.1), V.int _, V.int _] = _
        rw [e1, e2]
      refine ⟨o, _, _, rfl, rfl, ho, ?_, ?_⟩
      · rw [List.length_map]
        exact Nat.lt_of_le_of_lt (show ss.length ≤ 40 by omega) (by decide)
      · refine ⟨_, _, _, _, _, ss ++ [cyc p.1 (max (size (ps.take i)) place - size (ps.take i)) (min (size (ps.take i) + p.1.length * p.2) (place + many) - max (size (ps.take i)) place)], rfl, same_mut s2 no, ?_, ?_, ?_⟩
        · rw [upd_same, List.map_append]
          rfl
        · rw [List.length_append]
          show ss.length + 1 ≤ i + 1
          omega
        · rw [List.flatten_append, hss, happ]
          congr 1
          rw [hmul, drop_rep hgp.1 (by rw [hmul]; omega)]
          show [_].flatten = _
          rw [List.flatten_cons, List.flatten_nil, List.append_nil]
    · have hge : min (size (ps.take i) + p.1.length * p.2) (place + many) ≤ max (size (ps.take i)) place := by
        have : ¬ (((max (size (ps.take i)) place : Nat) : Int) < ((min (size (ps.take i) + p.1.length * p.2) (place + many) : Nat) : Int)) := fun z => e (decide_eq_true z)
        omega
      refine ⟨_, _, _, _, _, ss, rfl, s2, ho, by omega, ?_⟩
      rw [hss, happ, hmul, show min (size (ps.take i) + p.1.length * p.2) (place + many) - max (size (ps.take i)) place = 0 by omega, List.take_zero, List.append_nil]
  · rintro σ H2 ⟨y1, y2, y3, y4, y5, ss, rfl, s2, ho, hsl, hss⟩
    have hul := prd_len hus
    rw [spansOf_len] at hul
    rw [hul, List.take_length] at hss
    walk_at "rd"
    refine ⟨⟨_, rfl⟩, _, rfl, tx [], o, ss.map tx, rfl, rfl, .inl (SqL.of (by rw [List.map_map]; exact ho)), ?_, ?_⟩
    · have e1 : ((ss.map tx).map (·.length)) = ss.map (·.length) := by rw [List.map_map]; exact List.map_congr_left fun x _ => tx_len x
      have e2 : ss.flatten.length ≤ many := by rw [hss, List.length_take]; exact Nat.min_le_left _ _
      rw [e1, sum_le_len, tx_len, List.length_nil, Nat.mul_zero]
      omega
    · rw [join_tx, hss]
      exact q _ s2

/-! ## the so-manieth of a sign in a word again and again -/
def spNthAgain (K : PySem.W.Frag) : Sp := fun vs H Q _ => ∃ (x : List Nat) (c k : Nat), vs = [.str (tx x), .str (tx [c]), .int (k : Int)] ∧ x ≠ [] ∧ x.length ≤ 60 ∧ c ∈ x ∧ ∀ H' (i : Nat), Same H H' → (∀ n, k < n * x.count c → IsNth (rep x n) c k i) → Q (.int (i : Int)) H'
theorem ok_nth_again (T : Txt K mg) : FnOk P w K mg base CX0 1 T.f_nth_again.f T.f_nth_again.fd ["word", "sign", "number"] (spNthAgain K) := by
  refine T.f_nth_again.F.ok sc_nth_again (fun vs H Q E h => ?_) (fun cdv A outer s H vs Q E hr h => ?_)
  · obtain ⟨x, c, k, rfl, _⟩ := h
    rfl
  obtain ⟨x, c, k, rfl, hx, hl, hc, q⟩ := h
  have hcp : 0 < x.count c := List.count_pos_iff.mpr hc
  refine ⟨_, (pss_cons (ps_setLc (i := 3) (own := [("at", 6)]) rfl sc_nth_again.nd rfl rfl (sw_true rfl rfl rfl (by decide +kernel)) (pi_range1 (by rfl) T.b_range (pa_cons (pe_callB (call_lenK K) (by rfl) T.b_len (by decide +kernel) (pa_cons (pv 0) pa_nil)) pa_nil)) (blkOk_by (own := [("at", 6)]) (N := N_nth_again) (sc := defScope s_nth_again) (by decide +kernel)) (fun _ _ _ _ _ => (pg_name (i := 6) sc_nth_again.nd rfl (.inl rfl))) (fun _ _ _ _ _ => (pts_one (pt_cmpR op_eq (pe_ix (ix_seqK K) (pv 0) (pv 6) (fun _ _ => rfl)) (pv 1) (nomark _)))) (fun _ _ _ _ _ => (pv 6)))
      (pss_cons (ps_asg (pe_callB call_divmod (by rfl) T.b_divmod (by decide +kernel) (pa_cons (pv 2) (pa_cons (pe_callB (call_lenK K) (by rfl) T.b_len (by decide +kernel) (pa_cons (pv 3) pa_nil)) pa_nil))) (pg_tup rfl (pgs_cons (pg_name (i := 4) sc_nth_again.nd rfl (.inl rfl)) (pgs_cons (pg_name (i := 5) sc_nth_again.nd rfl (.inl rfl)) pgs_nil))))
      (pss_one (ps_ret (pe_op op_add (pe_op op_mul (pv 4) (pe_callB (call_lenK K) (by rfl) T.b_len (by decide +kernel) (pa_cons (pv 0) pa_nil))) (pe_ix ix_seq (pv 3) (pv 5) (fun _ _ => rfl))))))), ?_⟩
  walk_at "rd"
  refine lc_rng1 ?_
  walk_at "rd"
  refine ⟨_, rfl, len_tx (by omega) ⟨_, rfl, by omega, by omega, fun D hD => ?_⟩⟩
  have s1 : Same H (upd H D (.lst [])) := same_upd hD
  refine LcGo.range (fun i H2 => Same H H2 ∧ H2 D = some (.lst (((List.range i).filter fun j => x[j]? == some c).map fun j : Nat => V.int (j : Int)))) ⟨s1, upd_same⟩ ?_ ?_
  · rintro i H2 hi ⟨s2, h2⟩
    have hil : i < x.length := by omega
    have hg : x[i]? = some x[i] := List.getElem?_eq_getElem hil
    have hat : atI x (0 + (i : Int)) = some x[i] := at_ofA (j := i) (by omega) hg
    walk_at "rd"
    refine ⟨rfl, _, rfl, _, rfl, ix_tx (show x.length ≤ 1000000 by omega) hat ⟨_, rfl, rfl, _, rfl, ite2 (fun e => ?_) (fun e => ?_)⟩⟩
    · have ec : x[i] = c := by have := tx_inj (V.str.inj (of_decide_eq_true e)); simpa using this
      refine ⟨_, rfl, _, h2, ?_, same_mut s2 hD, ?_⟩
      · rw [List.length_map]
        refine Nat.lt_of_le_of_lt (List.length_filter_le _ _) ?_
        rw [List.length_range]
        exact Nat.lt_of_lt_of_le (show i < 60 by omega) (by decide)
      · rw [upd_same, List.range_succ, List.filter_append, List.map_append]
        have e2 : (List.filter (fun j => x[j]? == some c) [i]) = [i] := by
          rw [List.filter_cons, hg, ec]
          simp
        rw [e2]
        show some (HO.lst (_ ++ [V.int (0 + (i : Int))])) = some (HO.lst (_ ++ [V.int (i : Int)]))
        rw [Int.zero_add]
    · have ec : x[i] ≠ c := fun z => e (decide_eq_true (by rw [z]))
      refine ⟨s2, ?_⟩
      rw [h2, List.range_succ, List.filter_append]
      have e2 : (List.filter (fun j => x[j]? == some c) [i]) = [] := by
        rw [List.filter_cons, hg]
        simp [ec]
      rw [e2, List.append_nil]
  · rintro H2 ⟨s2, h2⟩
    rw [Int.toNat_natCast] at h2
    have h3 : H2 D = some (.lst ((pos x c).map fun j : Nat => V.int (j : Int))) := h2
    have hpl : ((pos x c).map fun j : Nat => V.int (j : Int)).length = x.count c := by rw [List.length_map, pos_len]
    have hc60 : x.count c ≤ 60 := Nat.le_trans List.count_le_length hl
    walk_at "rd"
    refine ⟨_, rfl, _, rfl, len_row (.inl (SqL.of h3)) ⟨_, _, rfl, ⟨by rw [hpl]; omega, by rw [hpl]; omega⟩, fun t nt => ?_⟩⟩
    rw [hpl]
    have hDt : D ≠ t := ne_of_none h3 nt
    refine ⟨t, _, rfl, SqT.of upd_same, rfl, _, _, rfl, _, _, rfl, rfl, ?_⟩
    have hlt : k % x.count c < (pos x c).length := by rw [pos_len]; exact Nat.mod_lt _ hcp
    have hn := pos_get (List.getElem?_eq_getElem hlt)
    refine ⟨_, rfl, _, rfl, len_tx (by omega) ⟨_, _, rfl, rfl, .inr ⟨by omega, by omega⟩, _, rfl, _, rfl, ix_lst (by rw [upd_ne hDt]; exact h3) (at_of (j := k % x.count c) (Int.natCast_emod k _).symm (by rw [List.getElem?_map, List.getElem?_eq_getElem hlt]; rfl)) ⟨_, _, rfl, rfl, ?_⟩⟩⟩
    show Q (.int ((k : Int) / (x.count c : Int) * (x.length : Int) + _)) _
    rw [← Int.natCast_ediv, ← Int.natCast_mul, ← Int.natCast_add]
    refine q _ _ (s2.trans (same_upd nt)) fun n hk => ?_
    have hq : k / x.count c < n := (Nat.div_lt_iff_lt_mul hcp).mpr hk
    have := nth_rep hn hq
    rw [Nat.div_add_mod' k (x.count c)] at this
    exact this

/-! ## the interface of texts -/
def spLength (K : PySem.W.Frag) : Sp := fun vs H Q _ => ∃ v d, vs = [v] ∧ At K H v d ∧ isText d = true ∧ ∀ H', Same H H' → Q (.int (size (pcs d) : Nat)) H'
theorem ok_length (T : Txt K mg) : FnOk P w K mg base CX0 7 T.f_length.f T.f_length.fd ["text"] (spLength K) := by
  refine T.f_length.F.ok sc_length (fun vs H Q E h => ?_) (fun cdv A outer s H vs Q E hr h => ?_)
  · obtain ⟨v, d, rfl, _⟩ := h
    rfl
  obtain ⟨v, d, rfl, hv, ht, q⟩ := h
  refine ⟨_, (pss_cons (ps_expr (pe_call (ok_check_text T) (hr.mono (by decide)) (by rfl) T.f_check_text.g T.f_check_text.F.kp T.f_check_text.b .nil pass0 (pa_cons (pv 0) pa_nil)))
      (pss_one (ps_ret (pe_call (ok_end_of T) (hr.mono (by decide)) (by rfl) T.f_end_of.g T.f_end_of.F.kp T.f_end_of.b .nil pass0 (pa_cons (pe_call (ok_spans_of T) (hr.mono (by decide)) (by rfl) T.f_spans_of.g T.f_spans_of.F.kp T.f_spans_of.b .nil pass0 (pa_cons (pv 0) pa_nil)) pa_nil))))), ?_⟩
  walk_at "rd"
  refine ⟨v, rfl, v, d, rfl, hv, ht, fun H1 s1 => ?_⟩
  exact ⟨v, rfl, v, pcs d, rfl, (textAt_of hv ht).same s1, Good.of ht, fun H2 a s2 hs => ⟨a, pcs d, rfl, hs, q _ (s1.trans s2)⟩⟩
def spLetter (K : PySem.W.Frag) : Sp := fun vs H Q _ => ∃ (v : V) (d : Dt) (place c : Nat), vs = [v, .int (place : Int)] ∧ At K H v d ∧ isText d = true ∧ (spell (pcs d))[place]? = some c ∧ ∀ H', Same H H' → Q (.str (tx [c])) H'
theorem within_ok {i lo hi : Int} (h1 : lo ≤ i) (h2 : i ≤ hi) : isWithin (.int i) lo hi = true := by
  show (decide (lo ≤ i) && decide (i ≤ hi)) = true
  rw [decide_eq_true h1, decide_eq_true h2]
  rfl
theorem at_int {K : PySem.W.Frag} {H : Hp} {i : Int} : At K H (.int i) (.int i) := by
  unfold At
  rfl
theorem ok_letter (T : Txt K mg) : FnOk P w K mg base CX0 7 T.f_letter.f T.f_letter.fd ["text", "place"] (spLetter K) := by
  refine T.f_letter.F.ok sc_letter (fun vs H Q E h => ?_) (fun cdv A outer s H vs Q E hr h => ?_)
  · obtain ⟨v, d, place, c, rfl, _⟩ := h
    rfl
  obtain ⟨v, d, place, c, rfl, hv, ht, hc, q⟩ := h
  have hg := Good.of ht
  have hlt := (List.getElem?_eq_some_iff.mp hc).1
  rw [spell_len] at hlt
  refine ⟨_, (pss_cons (ps_expr (pe_call (ok_check_text T) (hr.mono (by decide)) (by rfl) T.f_check_text.g T.f_check_text.F.kp T.f_check_text.b .nil pass0 (pa_cons (pv 0) pa_nil)))
      (pss_cons (ps_set (i := 2) sc_letter.nd rfl (.inl rfl) (pe_call (ok_spans_of T) (hr.mono (by decide)) (by rfl) T.f_spans_of.g T.f_spans_of.F.kp T.f_spans_of.b .nil pass0 (pa_cons (pv 0) pa_nil)))
      (pss_cons (ps_if (pt_not (pt_val (pe_call (ok_is_within T) (hr.mono (by decide)) (by rfl) T.f_is_within.g T.f_is_within.F.kp T.f_is_within.b .nil pass0 (pa_cons (pv 1) (pa_cons pe_int (pa_cons (pe_op op_sub (pe_call (ok_end_of T) (hr.mono (by decide)) (by rfl) T.f_end_of.g T.f_end_of.F.kp T.f_end_of.b .nil pass0 (pa_cons (pv 2) pa_nil)) pe_int) pa_nil)))))) (pss_one ps_never) pss_nil)
      (pss_one (ps_ret (pe_call (ok_look T) (hr.mono (by decide)) (by rfl) T.f_look.g T.f_look.F.kp T.f_look.b .nil pass0 (pa_cons (pv 2) (pa_cons (pv 1) (pa_cons pe_int pa_nil))))))))), ?_⟩
  walk_at "rd"
  refine ⟨v, rfl, v, d, rfl, hv, ht, fun H1 s1 => ?_⟩
  refine ⟨v, rfl, v, pcs d, rfl, (textAt_of hv ht).same s1, hg, fun H2 a s2 hs => ?_⟩
  refine ⟨_, rfl, _, rfl, a, pcs d, rfl, hs, _, _, rfl, rfl, _, .int place, 0, _, rfl, at_int, _, rfl, ?_⟩
  rw [within_ok (by omega) (by omega)]
  refine iteF ⟨_, rfl, _, rfl, a, pcs d, place, 1, rfl, hs, good_w hg, hg.few, by decide, fun H3 s3 => ?_⟩
  have e : ((spell (pcs d)).drop place).take 1 = [c] := by
    rw [List.drop_eq_getElem_cons (by rw [spell_len]; exact hlt), List.take_succ_cons, List.take_zero, (List.getElem?_eq_some_iff.mp hc).2]
  rw [e]
  exact q _ ((s1.trans s2).trans s3)
def spLooks (K : PySem.W.Frag) : Sp := fun vs H Q _ => ∃ (v : V) (d : Dt) (place many : Nat), vs = [v, .int (place : Int), .int (many : Int)] ∧ At K H v d ∧ isText d = true ∧ place ≤ size (pcs d) ∧ many ≤ 2000 ∧ ∀ H', Same H H' → Q (.str (tx (((spell (pcs d)).drop place).take many))) H'
def spCount (K : PySem.W.Frag) : Sp := fun vs H Q _ => ∃ (v : V) (d : Dt) (c many : Nat), vs = [v, .str (tx [c]), .int (many : Int)] ∧ At K H v d ∧ isText d = true ∧ alpha.contains c = true ∧ many ≤ size (pcs d) ∧ ∀ H', Same H H' → Q (.int ((((spell (pcs d)).take many).count c : Nat) : Int)) H'
theorem ok_count (T : Txt K mg) : FnOk P w K mg base CX0 7 T.f_count.f T.f_count.fd ["text", "sign", "many"] (spCount K) := by
  refine T.f_count.F.ok sc_count (fun vs H Q E h => ?_) (fun cdv A outer s H vs Q E hr h => ?_)
  · obtain ⟨v, d, place, c, rfl, _⟩ := h
    rfl
  obtain ⟨v, d, c, many, rfl, hv, ht, hc, hm, q⟩ := h
  have hg := Good.of ht
  refine ⟨_, (pss_cons (ps_expr (pe_call (ok_check_text T) (hr.mono (by decide)) (by rfl) T.f_check_text.g T.f_check_text.F.kp T.f_check_text.b .nil pass0 (pa_cons (pv 0) pa_nil)))
      (pss_cons (ps_expr (pe_call (ok_check_letter T) (hr.mono (by decide)) (by rfl) T.f_check_letter.g T.f_check_letter.F.kp T.f_check_letter.b .nil pass0 (pa_cons (pv 1) pa_nil)))
      (pss_cons (ps_set (i := 3) sc_count.nd rfl (.inl rfl) (pe_call (ok_spans_of T) (hr.mono (by decide)) (by rfl) T.f_spans_of.g T.f_spans_of.F.kp T.f_spans_of.b .nil pass0 (pa_cons (pv 0) pa_nil)))
      (pss_cons (ps_if (pt_not (pt_val (pe_call (ok_is_within T) (hr.mono (by decide)) (by rfl) T.f_is_within.g T.f_is_within.F.kp T.f_is_within.b .nil pass0 (pa_cons (pv 2) (pa_cons pe_int (pa_cons (pe_call (ok_end_of T) (hr.mono (by decide)) (by rfl) T.f_end_of.g T.f_end_of.F.kp T.f_end_of.b .nil pass0 (pa_cons (pv 3) pa_nil)) pa_nil)))))) (pss_one ps_never) pss_nil)
      (pss_cons (ps_set (i := 4) sc_count.nd rfl (.inl rfl) pe_int)
      (pss_cons (ps_for PassesOwn.never rfl (pi_list (pv 3)) (pg_tup rfl (pgs_cons (pg_name (i := 5) sc_count.nd rfl (.inl rfl)) (pgs_cons (pg_name (i := 6) sc_count.nd rfl (.inl rfl)) (pgs_cons (pg_name (i := 7) sc_count.nd rfl (.inl rfl)) pgs_nil))))
        (pss_one (ps_if (pt_cmpR op_lt (pv 5) (pv 2) (nomark _)) (pss_one (ps_aug (i := 4) sc_count.nd rfl (.inl rfl) (pe_call (ok_among T) (hr.mono (by decide)) (by rfl) T.f_among.g T.f_among.F.kp T.f_among.b .nil pass0 (pa_cons (pv 7) (pa_cons (pv 1) (pa_cons (pe_op op_sub (pe_callB (call_min2 rfl) (by rfl) T.b_min (by decide +kernel) (pa_cons (pv 6) (pa_cons (pv 2) pa_nil))) (pv 5)) pa_nil)))) ip_add)) pss_nil)))
      (pss_one (ps_ret (pv 4))))))))), ?_⟩
  walk_at "rd"
  refine ⟨v, rfl, v, d, rfl, hv, ht, fun H1 s1 => ?_⟩
  refine ⟨_, rfl, c, rfl, hc, ?_⟩
  refine ⟨v, rfl, v, pcs d, rfl, (textAt_of hv ht).same s1, hg, fun H2 a s2 hs => ?_⟩
  refine ⟨_, rfl, _, rfl, a, pcs d, rfl, hs, _, .int many, 0, _, rfl, at_int, _, rfl, ?_⟩
  rw [within_ok (by omega) (by omega)]
  refine iteF ?_
  obtain ⟨us, ha, hus⟩ := hs
  refine fr_list ?_
  walk_at "rd"
  refine ⟨_, rfl, a, rfl, ⟨_, SqL.of ha⟩, ForGo.list (xs := us)
    (fun i σ H3 => ∃ y1 y2 y3, σ = [some v, some (.str (tx [c])), some (.int (many : Int)), some (.ref a), some (.int ((((spell ((pcs d).take i)).take many).count c : Nat) : Int)), y1, y2, y3] ∧ Same H2 H3)
    ⟨none, none, none, by rw [List.take_zero, spell_nil, List.take_nil]; rfl, Same.refl _⟩ (fun i σ H3 _ ⟨_, _, _, _, s3⟩ => SqL.of (s3 _ _ ha)) ?_ ?_⟩
  · rintro i x σ H3 hx ⟨y1, y2, y3, rfl, s3⟩
    obtain ⟨sp, hsp, b, rfl, hb⟩ := prd_at hus hx
    obtain ⟨p, hp, rfl⟩ := spansOf_at _ hsp
    have hgp := good_w hg p (List.mem_of_getElem? hp)
    have hsz : (spell ((pcs d).take i)).length = size ((pcs d).take i) := spell_len _
    have happ := count_app (spell ((pcs d).take i)) (rep p.1 p.2) c many
    have hmul : p.2 * p.1.length = p.1.length * p.2 := Nat.mul_comm _ _
    rw [← spell_take_succ hp, rep_len, hsz, hmul] at happ
    walk_at "rd"
    refine ⟨b, _, rfl, SqT.of (s3 _ _ hb), rfl, _, _, rfl, _, _, rfl, _, _, rfl, rfl, ?_⟩
    refine ⟨_, rfl, _, rfl, _, _, rfl, rfl, _, rfl, ite2 (fun e => ?_) (fun e => ?_)⟩
    · have hlt : size ((pcs d).take i) < many := by have := of_decide_eq_true e; omega
      refine ⟨_, rfl, _, rfl, _, rfl, _, rfl, _, rfl, _, _, rfl, _, rfl, _, _, rfl, rfl, ?_⟩
      have emin : (if (many : Int) < ((size ((pcs d).take i) + p.1.length * p.2 : Nat) : Int) then (many : Int) else ((size ((pcs d).take i) + p.1.length * p.2 : Nat) : Int)) - ((size ((pcs d).take i) : Nat) : Int) = ((min (size ((pcs d).take i) + p.1.length * p.2) many - size ((pcs d).take i) : Nat) : Int) := by
        split <;> omega
      refine ⟨p.1, c, min (size ((pcs d).take i) + p.1.length * p.2) many - size ((pcs d).take i), ?_, hgp.1, hgp.2, fun H4 s4 => ⟨_, _, rfl, rfl, ?_⟩⟩
      · show [V.str (tx p.1), V.str (tx [c]), V.int _] = _
        rw [← emin]
      · rw [rep_take_count hgp.1 c (by rw [hmul]; omega)] at happ
        rw [happ, Int.natCast_add]
        exact ⟨_, _, _, rfl, s3.trans s4⟩
    · have hge : many ≤ size ((pcs d).take i) := by
        have : ¬ (((size ((pcs d).take i) : Nat) : Int) < (many : Int)) := fun z => e (decide_eq_true z)
        omega
      rw [show min (size ((pcs d).take i) + p.1.length * p.2) many - size ((pcs d).take i) = 0 by omega, List.take_zero, List.count_nil, Nat.add_zero] at happ
      rw [happ]
      exact ⟨_, _, _, rfl, s3⟩
  · rintro σ H3 ⟨y1, y2, y3, rfl, s3⟩
    have hul := prd_len hus
    rw [spansOf_len] at hul
    rw [hul, List.take_length]
    exact ⟨_, rfl, q _ ((s1.trans s2).trans s3)⟩

def spNth (K : PySem.W.Frag) : Sp := fun vs H Q _ => ∃ (v : V) (d : Dt) (c k : Nat), vs = [v, .str (tx [c]), .int (k : Int)] ∧ At K H v d ∧ isText d = true ∧ alpha.contains c = true ∧
  (∀ H' i, Same H H' → IsNth (spell (pcs d)) c k i → Q (.int (i : Int)) H') ∧ (∀ H', Same H H' → (spell (pcs d)).count c ≤ k → Q .non H')
theorem ok_nth (T : Txt K mg) : FnOk P w K mg base CX0 7 T.f_nth.f T.f_nth.fd ["text", "sign", "number"] (spNth K) := by
  refine T.f_nth.F.ok sc_nth (fun vs H Q E h => ?_) (fun cdv A outer s H vs Q E hr h => ?_)
  · obtain ⟨v, d, place, c, rfl, _⟩ := h
    rfl
  obtain ⟨v, d, c, k, rfl, hv, ht, hc, q1, q2⟩ := h
  have hg := Good.of ht
  refine ⟨_, (pss_cons (ps_expr (pe_call (ok_check_text T) (hr.mono (by decide)) (by rfl) T.f_check_text.g T.f_check_text.F.kp T.f_check_text.b .nil pass0 (pa_cons (pv 0) pa_nil)))
      (pss_cons (ps_expr (pe_call (ok_check_letter T) (hr.mono (by decide)) (by rfl) T.f_check_letter.g T.f_check_letter.F.kp T.f_check_letter.b .nil pass0 (pa_cons (pv 1) pa_nil)))
      (pss_cons (ps_if (pt_not (pt_val (pe_call (ok_is_whole T) (hr.mono (by decide)) (by rfl) T.f_is_whole.g T.f_is_whole.F.kp T.f_is_whole.b .nil pass0 (pa_cons (pv 2) (pa_cons pe_int pa_nil))))) (pss_one ps_never) pss_nil)
      (pss_cons (ps_set (i := 3) sc_nth.nd rfl (.inl rfl) pe_int)
      (pss_cons (ps_for PassesOwn.never rfl (pi_list (pe_call (ok_spans_of T) (hr.mono (by decide)) (by rfl) T.f_spans_of.g T.f_spans_of.F.kp T.f_spans_of.b .nil pass0 (pa_cons (pv 0) pa_nil))) (pg_tup rfl (pgs_cons (pg_name (i := 4) sc_nth.nd rfl (.inl rfl)) (pgs_cons (pg_name (i := 5) sc_nth.nd rfl (.inl rfl)) (pgs_cons (pg_name (i := 6) sc_nth.nd rfl (.inl rfl)) pgs_nil))))
        (pss_cons (ps_set (i := 7) sc_nth.nd rfl (.inl rfl) (pe_call (ok_among T) (hr.mono (by decide)) (by rfl) T.f_among.g T.f_among.F.kp T.f_among.b .nil pass0 (pa_cons (pv 6) (pa_cons (pv 1) (pa_cons (pe_op op_sub (pv 5) (pv 4)) pa_nil)))))
      (pss_cons (ps_if (pt_cmpR op_lt (pv 2) (pe_op op_add (pv 3) (pv 7)) (nomark _)) (pss_one (ps_ret (pe_op op_add (pv 4) (pe_call (ok_nth_again T) (hr.mono (by decide)) (by rfl) T.f_nth_again.g T.f_nth_again.F.kp T.f_nth_again.b .nil pass0 (pa_cons (pv 6) (pa_cons (pv 1) (pa_cons (pe_op op_sub (pv 2) (pv 3)) pa_nil))))))) pss_nil)
      (pss_one (ps_aug (i := 3) sc_nth.nd rfl (.inl rfl) (pv 7) ip_add)))))
      (pss_one (ps_ret pe_non))))))), ?_⟩
  walk_at "rd"
  refine ⟨v, rfl, v, d, rfl, hv, ht, fun H1 s1 => ?_⟩
  refine ⟨_, rfl, c, rfl, hc, ?_⟩
  refine ⟨_, rfl, _, .int k, 0, rfl, at_int, _, rfl, ?_⟩
  have e0 : isWhole (.int (k : Int)) 0 = true := by
    show decide ((0 : Int) ≤ (k : Int)) = true
    exact decide_eq_true (by omega)
  rw [e0]
  refine iteF ?_
  refine fr_list ?_
  walk_at "rd"
  refine ⟨v, rfl, v, pcs d, rfl, (textAt_of hv ht).same s1, hg, fun H2 a s2 hs => ?_⟩
  obtain ⟨us, ha, hus⟩ := hs
  refine ⟨a, rfl, ⟨_, SqL.of ha⟩, ForGo.list (xs := us)
    (fun i σ H3 => ∃ y1 y2 y3 y4, σ = [some v, some (.str (tx [c])), some (.int (k : Int)), some (.int (((spell ((pcs d).take i)).count c : Nat) : Int)), y1, y2, y3, y4] ∧ Same H2 H3 ∧ (spell ((pcs d).take i)).count c ≤ k)
    ⟨none, none, none, none, rfl, Same.refl _, Nat.zero_le _⟩ (fun i σ H3 _ ⟨_, _, _, _, _, s3, _⟩ => SqL.of (s3 _ _ ha)) ?_ ?_⟩
  · rintro i x σ H3 hx ⟨y1, y2, y3, y4, rfl, s3, hk⟩
    obtain ⟨sp, hsp, b, rfl, hb⟩ := prd_at hus hx
    obtain ⟨p, hp, rfl⟩ := spansOf_at _ hsp
    have hgp := good_w hg p (List.mem_of_getElem? hp)
    have hmul : p.2 * p.1.length = p.1.length * p.2 := Nat.mul_comm _ _
    have hcut : spell (pcs d) = spell ((pcs d).take (i + 1)) ++ spell ((pcs d).drop (i + 1)) := by rw [← spell_app, List.take_append_drop]
    have hall := rep_take_count (n := p.2) (m := p.1.length * p.2) hgp.1 c (by rw [hmul]; exact Nat.le_refl _)
    rw [List.take_of_length_le (by rw [rep_len, hmul]; exact Nat.le_refl _)] at hall
    walk_at "rd"
    refine ⟨b, _, rfl, SqT.of (s3 _ _ hb), rfl, _, _, rfl, _, _, rfl, _, _, rfl, rfl, ?_⟩
    have esub : ((size ((pcs d).take i) + p.1.length * p.2 : Nat) : Int) - ((size ((pcs d).take i) : Nat) : Int) = ((p.1.length * p.2 : Nat) : Int) := by omega
    refine ⟨_, rfl, _, rfl, _, rfl, _, rfl, _, _, rfl, rfl, p.1, c, p.1.length * p.2, ?_, hgp.1, hgp.2, fun H4 s4 => ?_⟩
    · show [V.str (tx p.1), V.str (tx [c]), V.int _] = _
      rw [← esub]
    rw [← hall]
    refine ⟨_, rfl, _, rfl, _, rfl, _, _, rfl, rfl, _, _, rfl, rfl, _, rfl, ite2 (fun e => ?_) (fun e => ?_)⟩
    · have hlt : k < (spell ((pcs d).take i)).count c + (rep p.1 p.2).count c := by have := of_decide_eq_true e; omega
      have ek : (k : Int) - (((spell ((pcs d).take i)).count c : Nat) : Int) = ((k - (spell ((pcs d).take i)).count c : Nat) : Int) := by omega
      rw [rep_count] at hlt
      have hcx : c ∈ p.1 := by
        rw [← List.count_pos_iff]
        rcases Nat.eq_zero_or_pos (p.1.count c) with z | z
        · rw [z, Nat.mul_zero] at hlt
          omega
        · exact z
      refine ⟨_, rfl, _, rfl, _, rfl, _, rfl, _, rfl, _, _, rfl, rfl, p.1, c, k - (spell ((pcs d).take i)).count c, ?_, hgp.1, hgp.2, hcx, fun H5 j s5 hj => ⟨_, _, rfl, rfl, ?_⟩⟩
      · show [V.str (tx p.1), V.str (tx [c]), V.int _] = _
        rw [← ek]
      · show Q (.int (((size ((pcs d).take i) : Nat) : Int) + (j : Int))) H5
        rw [← Int.natCast_add, ← spell_len]
        refine q1 _ _ ((((s1.trans s2).trans s3).trans s4).trans s5) ?_
        rw [hcut, spell_take_succ hp]
        refine nth_app_left ?_
        have := nth_app_right (A := spell ((pcs d).take i)) (hj p.2 (by omega))
        rw [show (spell ((pcs d).take i)).count c + (k - (spell ((pcs d).take i)).count c) = k by omega] at this
        exact this
    · have hge : (spell ((pcs d).take i)).count c + (rep p.1 p.2).count c ≤ k := by
        have : ¬ ((k : Int) < (((spell ((pcs d).take i)).count c : Nat) : Int) + (((rep p.1 p.2).count c : Nat) : Int)) := fun z => e (decide_eq_true z)
        omega
      refine ⟨_, rfl, _, rfl, _, _, rfl, rfl, ?_⟩
      rw [spell_take_succ hp, List.count_append, Int.natCast_add]
      exact ⟨_, _, _, _, rfl, s3.trans s4, hge⟩
  · rintro σ H3 ⟨y1, y2, y3, y4, rfl, s3, hk⟩
    have hul := prd_len hus
    rw [spansOf_len] at hul
    rw [hul, List.take_length] at hk
    walk_at "rd"
    exact q2 _ ((s1.trans s2).trans s3) hk

theorem prd_app {α β : Type} {R : α → β → Prop} {xs xs' : List α} {ys ys' : List β} (h : Paired R xs ys) (h' : Paired R xs' ys') : Paired R (xs ++ xs') (ys ++ ys') := by
  induction h with
  | nil => exact h'
  | cons a t ih => exact .cons a ih
/-! ## where two texts part -/
def spSplitAt : Sp := fun vs H Q _ => ∃ x y : List Nat, vs = [.str (tx x), .str (tx y)] ∧ x.length ≤ 1000000 ∧ y.length ≤ 1000000 ∧ x ≠ y ∧ ∀ i : Nat, Unlike x y i → Q (.int (i : Int)) H
theorem ok_split_at (T : Txt K mg) : FnOk P w K mg base CX0 1 T.f_split_at.f T.f_split_at.fd ["one", "other"] spSplitAt := by
  refine T.f_split_at.F.ok sc_split_at (fun vs H Q E h => ?_) (fun cdv A outer s H vs Q E hr h => ?_)
  · obtain ⟨x, y, rfl, _⟩ := h
    rfl
  obtain ⟨x, y, rfl, hx, hy, hne, q⟩ := h
  refine ⟨_, (pss_cons (ps_set (i := 2) sc_split_at.nd rfl (.inl rfl) (pe_callB (call_min2 rfl) (by rfl) T.b_min (by decide +kernel) (pa_cons (pe_callB (call_lenK K) (by rfl) T.b_len (by decide +kernel) (pa_cons (pv 0) pa_nil)) (pa_cons (pe_callB (call_lenK K) (by rfl) T.b_len (by decide +kernel) (pa_cons (pv 1) pa_nil)) pa_nil))))
      (pss_cons (ps_for PassesOwn.never rfl (pi_range1 (by rfl) T.b_range (pa_cons (pv 2) pa_nil)) (pg_name (i := 3) sc_split_at.nd rfl (.inl rfl))
        (pss_one (ps_if (pt_cmpR op_ne (pe_ix ix_seq (pv 0) (pv 3) (fun _ _ => rfl)) (pe_ix ix_seq (pv 1) (pv 3) (fun _ _ => rfl)) (nomark _)) (pss_one (ps_ret (pv 3))) pss_nil)))
      (pss_one (ps_ret (pv 2))))), ?_⟩
  walk_at "rd"
  refine ⟨_, rfl, len_tx hx ⟨_, rfl, len_tx hy ⟨_, _, rfl, ?_⟩⟩⟩
  have em : (if (y.length : Int) < (x.length : Int) then (y.length : Int) else (x.length : Int)) = ((min x.length y.length : Nat) : Int) := by
    split <;> omega
  walk_at "rd"
  rw [em]
  refine fr_rng1 ?_
  walk_at "rd"
  refine ⟨_, rfl, _, rfl, by omega, by omega, ForGo.range
    (fun i σ H2 => ∃ z, σ = [some (.str (tx x)), some (.str (tx y)), some (.int ((min x.length y.length : Nat) : Int)), z] ∧ H2 = H ∧ x.take i = y.take i)
    ⟨none, rfl, rfl, rfl⟩ ?_ ?_⟩
  · rintro i σ H2 hi ⟨z, rfl, rfl, ht⟩
    have hi2 : i < x.length ∧ i < y.length := by omega
    have gx : x[i]? = some x[i] := List.getElem?_eq_getElem hi2.1
    have gy : y[i]? = some y[i] := List.getElem?_eq_getElem hi2.2
    have ax : atI x (0 + (i : Int)) = some x[i] := at_ofA (j := i) (by omega) gx
    have ay : atI y (0 + (i : Int)) = some y[i] := at_ofA (j := i) (by omega) gy
    walk_at "rd"
    refine ⟨_, rfl, _, rfl, ix_tx hx ax ⟨_, rfl, _, rfl, ix_tx hy ay ⟨rfl, _, rfl, ?_⟩⟩⟩
    by_cases e : x[i] = y[i]
    · rw [e, show (!decide (V.str (tx [y[i]]) = V.str (tx [y[i]]))) = false by rw [decide_eq_true rfl]; rfl]
      refine iteF ⟨_, rfl, rfl, ?_⟩
      rw [List.take_add_one, List.take_add_one, gx, gy, ht, e]
    · have en : (!decide (V.str (tx [x[i]]) = V.str (tx [y[i]]))) = true := by
        rw [decide_eq_false (fun z => e (by have := tx_inj (V.str.inj z); simpa using this))]
        rfl
      rw [en]
      refine iteT ⟨_, rfl, ?_⟩
      rw [Int.zero_add]
      exact q i ⟨ht, by rw [gx, gy]; intro z; exact e (Option.some.inj z)⟩
  · rintro σ H2 ⟨z, rfl, rfl, ht⟩
    walk_at "rd"
    refine ⟨_, rfl, q _ ⟨ht, fun e => ?_⟩⟩
    rw [show ((min x.length y.length : Nat) : Int).toNat = min x.length y.length from rfl] at ht
    by_cases h1 : x.length ≤ y.length
    · rw [Nat.min_eq_left h1] at e ht
      rw [List.getElem?_eq_none (Nat.le_refl _)] at e
      have h2 : y.length ≤ x.length := List.getElem?_eq_none_iff.mp e.symm
      rw [List.take_length, List.take_of_length_le h2] at ht
      exact hne ht
    · rw [Nat.min_eq_right (by omega)] at e ht
      rw [List.getElem?_eq_none (l := y) (Nat.le_refl _)] at e
      have h2 : x.length ≤ y.length := List.getElem?_eq_none_iff.mp e
      omega
def spFirstUnlike (K : PySem.W.Frag) : Sp := fun vs H Q _ => ∃ v u d e, vs = [v, u] ∧ At K H v d ∧ At K H u e ∧ isText d = true ∧ isText e = true ∧
  (∀ H' (i : Nat), Same H H' → Unlike (spell (pcs d)) (spell (pcs e)) i → Q (.int (i : Int)) H') ∧ (∀ H', Same H H' → spell (pcs d) = spell (pcs e) → Q .non H')
theorem spansOf_ends (ps : Pcs) {v : Nat} (h : v ∈ (spansOf 0 ps).map fun x => x.2.1) : ∃ k, k < ps.length ∧ v = size (ps.take (k + 1)) := by
  obtain ⟨x, hx, rfl⟩ := List.mem_map.mp h
  obtain ⟨k, hk⟩ := List.mem_iff_getElem?.mp hx
  obtain ⟨p, hp, rfl⟩ := spansOf_at ps hk
  exact ⟨k, (List.getElem?_eq_some_iff.mp hp).1, by rw [size_take_succ ps hp]⟩
theorem ends_spansOf (ps : Pcs) {k : Nat} (h : k < ps.length) : size (ps.take (k + 1)) ∈ (spansOf 0 ps).map fun x => x.2.1 := by
  have e := spansOf_get ps 0 k ps[k] (List.getElem?_eq_getElem h)
  refine List.mem_map.mpr ⟨_, List.mem_of_getElem? e, ?_⟩
  show 0 + size (ps.take k) + ps[k].1.length * ps[k].2 = _
  rw [size_take_succ ps (List.getElem?_eq_getElem h), Nat.zero_add]
theorem ok_first_unlike (T : Txt K mg) : FnOk P w K mg base CX0 7 T.f_first_unlike.f T.f_first_unlike.fd ["text", "other"] (spFirstUnlike K) := by
  refine T.f_first_unlike.F.ok sc_first_unlike (fun vs H Q E h => ?_) (fun cdv A outer s H vs Q E hr h => ?_)
  · obtain ⟨v, u, d, e, rfl, _⟩ := h
    rfl
  obtain ⟨v, u, d, e, rfl, hv, hu, hd, he, q1, q2⟩ := h
  have gd := Good.of hd
  have ge := Good.of he
  generalize hps : pcs d = ps at *
  generalize hqs : pcs e = qs at *
  refine ⟨_, (pss_cons (ps_expr (pe_call (ok_check_text T) (hr.mono (by decide)) (by rfl) T.f_check_text.g T.f_check_text.F.kp T.f_check_text.b .nil pass0 (pa_cons (pv 0) pa_nil)))
      (pss_cons (ps_expr (pe_call (ok_check_text T) (hr.mono (by decide)) (by rfl) T.f_check_text.g T.f_check_text.F.kp T.f_check_text.b .nil pass0 (pa_cons (pv 1) pa_nil)))
      (pss_cons (ps_set (i := 2) sc_first_unlike.nd rfl (.inl rfl) (pe_call (ok_spans_of T) (hr.mono (by decide)) (by rfl) T.f_spans_of.g T.f_spans_of.F.kp T.f_spans_of.b .nil pass0 (pa_cons (pv 0) pa_nil)))
      (pss_cons (ps_set (i := 3) sc_first_unlike.nd rfl (.inl rfl) (pe_call (ok_spans_of T) (hr.mono (by decide)) (by rfl) T.f_spans_of.g T.f_spans_of.F.kp T.f_spans_of.b .nil pass0 (pa_cons (pv 1) pa_nil)))
      (pss_cons (ps_set (i := 4) sc_first_unlike.nd rfl (.inl rfl) pe_int)
      (pss_cons (ps_for PassesOwn.never rfl (pi_list (pe_callB cr_sortedI (by rfl) T.b_sorted (by decide +kernel) (pa_cons (pe_lc (own := [("span", 9)]) rfl sc_first_unlike.nd (pi_list (pe_op op_cat (pv 2) (pv 3))) (blkOk_by (own := [("span", 9)]) (N := N_first_unlike) (sc := defScope s_first_unlike) (by decide +kernel)) (fun _ _ _ _ _ => (pg_name (i := 9) sc_first_unlike.nd rfl (.inl rfl))) (fun _ _ _ _ _ => pts_nil) (fun _ _ _ _ _ => (pe_ix (ix_seqK K) (pv 9) pe_int (fun _ _ => rfl)))) pa_nil))) (pg_name (i := 5) sc_first_unlike.nd rfl (.inl rfl))
        (pss_cons (ps_set (i := 6) sc_first_unlike.nd rfl (.inl rfl) (pe_callB (call_min2 rfl) (by rfl) T.b_min (by decide +kernel) (pa_cons (pe_op op_sub (pv 5) (pv 4)) (pa_cons (pe_c_TWO_WORDS T) pa_nil))))
      (pss_cons (ps_set (i := 7) sc_first_unlike.nd rfl (.inl rfl) (pe_call (ok_look T) (hr.mono (by decide)) (by rfl) T.f_look.g T.f_look.F.kp T.f_look.b .nil pass0 (pa_cons (pv 2) (pa_cons (pv 4) (pa_cons (pv 6) pa_nil)))))
      (pss_cons (ps_set (i := 8) sc_first_unlike.nd rfl (.inl rfl) (pe_call (ok_look T) (hr.mono (by decide)) (by rfl) T.f_look.g T.f_look.F.kp T.f_look.b .nil pass0 (pa_cons (pv 3) (pa_cons (pv 4) (pa_cons (pv 6) pa_nil)))))
      (pss_cons (ps_if (pt_cmpR op_ne (pv 7) (pv 8) (nomark _)) (pss_one (ps_ret (pe_op op_add (pv 4) (pe_call (ok_split_at T) (hr.mono (by decide)) (by rfl) T.f_split_at.g T.f_split_at.F.kp T.f_split_at.b .nil pass0 (pa_cons (pv 7) (pa_cons (pv 8) pa_nil)))))) pss_nil)
      (pss_one (ps_set (i := 4) sc_first_unlike.nd rfl (.inl rfl) (pv 5))))))))
      (pss_one (ps_ret pe_non)))))))), ?_⟩
  walk_at "rd"
  refine ⟨_, rfl, v, d, rfl, hv, hd, fun H1 s1 => ?_⟩
  refine ⟨_, rfl, u, e, rfl, hu.same s1, he, fun H2 s2 => ?_⟩
  have s12 := s1.trans s2
  refine ⟨_, rfl, v, ps, rfl, by rw [← hps]; exact (textAt_of hv hd).same s12, gd, fun H3 a s3 ha => ?_⟩
  refine ⟨_, rfl, u, qs, rfl, by rw [← hqs]; exact (textAt_of hu he).same (s12.trans s3), ge, fun H4 b s4 hb => ?_⟩
  have s14 := (s12.trans s3).trans s4
  obtain ⟨us, hau, hus⟩ := ha.same s4
  obtain ⟨ws, hbw, hws⟩ := hb
  have hul := prd_len hus
  have hwl := prd_len hws
  rw [spansOf_len] at hul hwl
  have f1 := gd.few
  have f2 := ge.few
  have hall := prd_app hus hws
  refine fr_list ?_
  walk_at "rd"
  refine lc_lst ?_
  walk_at "rd"
  refine ⟨_, rfl, _, rfl, a, b, us, ws, rfl, rfl, hau, hbw, Nat.le_trans (show us.length + ws.length ≤ 80 by omega) (by decide), fun c nc => ?_⟩
  refine ⟨c, rfl, ⟨_, SqL.of upd_same⟩, fun D nD => ?_⟩
  have s5 : Same H4 (upd H4 c (.lst (us ++ ws))) := same_upd nc
  refine LcGo.list (xs := us ++ ws) (fun i H6 => Same (upd H4 c (.lst (us ++ ws))) H6 ∧ H6 D = some (.lst (((((spansOf 0 ps ++ spansOf 0 qs).map fun x => ((x.2.1 : Nat) : Int)).take i)).map V.int)))
    ⟨same_upd nD, upd_same⟩ (fun i H6 _ h => SqL.of (h.1 _ _ upd_same)) ?_ ?_
  · rintro i x H6 hx ⟨s6, hD⟩
    obtain ⟨y, hy, t, rfl, ht⟩ := prd_at hall hx
    walk_at "rd"
    refine ⟨rfl, _, rfl, ix_row (.inr (SqT.of ((s5.trans s6) _ _ ht))) (atI_nat (j := 1) rfl) ⟨_, hD, ?_, same_mut s6 nD, ?_⟩⟩
    · rw [List.length_map, List.length_take, List.length_map, List.length_append, spansOf_len, spansOf_len]
      exact Nat.lt_of_le_of_lt (show min i (ps.length + qs.length) ≤ 80 by omega) (by decide)
    · rw [upd_same, List.take_add_one, List.getElem?_map, hy, List.map_append (f := V.int)]
      rfl
  rintro H6 ⟨s6, hD⟩
  rw [List.take_of_length_le (by rw [List.length_map, ← prd_len hall]; exact Nat.le_refl _)] at hD
  walk_at "rd"
  refine ⟨D, _, rfl, SqL.of hD, fun ns r perm rising nr => ?_⟩
  have s46 : Same H4 (upd H6 r (.lst (ns.map V.int))) := (s5.trans s6).trans (same_upd nr)
  have hmem : ∀ z : Int, z ∈ ns → ∃ n : Nat, z = (n : Int) := fun z hz => by
    obtain ⟨x, _, rfl⟩ := List.mem_map.mp (perm.mem_iff.mp hz)
    exact ⟨x.2.1, rfl⟩
  have hinP : ∀ k, k < ps.length → ((size (ps.take (k + 1)) : Nat) : Int) ∈ ns := fun k hk => by
    refine perm.mem_iff.mpr ?_
    rw [List.map_append]
    obtain ⟨x, hx, he⟩ := List.mem_map.mp (ends_spansOf ps hk)
    exact List.mem_append_left _ (List.mem_map.mpr ⟨x, hx, congrArg Int.ofNat he⟩)
  have hinQ : ∀ k, k < qs.length → ((size (qs.take (k + 1)) : Nat) : Int) ∈ ns := fun k hk => by
    refine perm.mem_iff.mpr ?_
    rw [List.map_append]
    obtain ⟨x, hx, he⟩ := List.mem_map.mp (ends_spansOf qs hk)
    exact List.mem_append_right _ (List.mem_map.mpr ⟨x, hx, congrArg Int.ofNat he⟩)
  refine ⟨r, rfl, ⟨_, SqL.of upd_same⟩, ForGo.list (xs := ns.map V.int)
    (fun i σ H7 => ∃ (low : Nat) (y5 y6 y7 y8 y9 : Option V), σ = [some v, some u, some (.ref a), some (.ref b), some (.int (low : Int)), y5, y6, y7, y8, y9] ∧ Same (upd H6 r (.lst (ns.map V.int))) H7 ∧ (spell ps).take low = (spell qs).take low ∧ (∀ z ∈ ns.take i, z ≤ (low : Int)) ∧ ∀ z ∈ ns.drop i, (low : Int) ≤ z)
    ⟨0, none, none, none, none, none, rfl, Same.refl _, rfl, fun z hz => by rw [List.take_zero] at hz; (cases hz), fun z hz => by
      rw [List.drop_zero] at hz
      obtain ⟨n, rfl⟩ := hmem z hz
      omega⟩ (fun i σ H7 _ ⟨_, _, _, _, _, _, _, s7, _⟩ => SqL.of (s7 _ _ upd_same)) ?_ ?_⟩
  · rintro i x σ H7 hx ⟨low, y5, y6, y7, y8, y9, rfl, s7, hlow, hbelow, habove⟩
    rw [List.getElem?_map] at hx
    obtain ⟨z, hz, rfl⟩ : ∃ z, ns[i]? = some z ∧ x = V.int z := by
      cases ez : ns[i]? with
      | none => rw [ez] at hx; cases hx
      | some z => rw [ez] at hx; exact ⟨z, rfl, (Option.some.inj hx).symm⟩
    obtain ⟨high, rfl⟩ := hmem z (List.mem_of_getElem? hz)
    have hil := (List.getElem?_eq_some_iff.mp hz).1
    have hdrop : ns.drop i = (high : Int) :: ns.drop (i + 1) := by
      rw [List.drop_eq_getElem_cons hil, (List.getElem?_eq_some_iff.mp hz).2]
    have hlh : low ≤ high := by
      have := habove (high : Int) (by rw [hdrop]; exact List.mem_cons_self ..)
      omega
    have hup : ∀ z ∈ ns.drop (i + 1), (high : Int) ≤ z := by
      have hp := rising.drop (i := i)
      rw [hdrop] at hp
      exact (List.pairwise_cons.mp hp).1
    have hsplit : ∀ n : Nat, (n : Int) ∈ ns → n ≤ low ∨ high ≤ n := fun n hn => by
      rw [← List.take_append_drop i ns] at hn
      rcases List.mem_append.mp hn with hn | hn
      · have := hbelow _ hn
        omega
      · rw [hdrop] at hn
        rcases List.mem_cons.mp hn with hn | hn
        · omega
        · have := hup _ hn
          omega
    have s4H := s46.trans s7
    walk_at "rd"
    have em : (if (120 : Int) < (high : Int) - (low : Int) then (120 : Int) else (high : Int) - (low : Int)) = ((min (high - low) 120 : Nat) : Int) := by
      split <;> omega
    refine ⟨_, rfl, _, rfl, _, _, rfl, rfl, _, _, rfl, ?_⟩
    rw [em]
    refine ⟨_, rfl, _, rfl, _, rfl, a, ps, low, min (high - low) 120, rfl, ⟨us, s4H _ _ hau, prd_same (fun _ _ => SpanAt.same s4H) hus⟩, good_w gd, f1, by omega, fun H8 s8 => ?_⟩
    have s4H8 := s4H.trans s8
    refine ⟨_, rfl, _, rfl, _, rfl, b, qs, low, min (high - low) 120, rfl, ⟨ws, s4H8 _ _ hbw, prd_same (fun _ _ => SpanAt.same s4H8) hws⟩, good_w ge, f2, by omega, fun H9 s9 => ?_⟩
    have hA : (spell ps).length ≤ low ∨ (high ≤ (spell ps).length ∧ Round (spell ps) low high) ∨ low = high := by
      rw [spell_len]
      by_cases hlt : low < high
      · rcases round_of ps low high (good_w gd) hlt (fun k hk => hsplit _ (hinP k hk)) with h | h
        · exact .inl h
        · exact .inr (.inl h)
      · exact .inr (.inr (by omega))
    have hB : (spell qs).length ≤ low ∨ (high ≤ (spell qs).length ∧ Round (spell qs) low high) ∨ low = high := by
      rw [spell_len]
      by_cases hlt : low < high
      · rcases round_of qs low high (good_w ge) hlt (fun k hk => hsplit _ (hinQ k hk)) with h | h
        · exact .inl h
        · exact .inr (.inl h)
      · exact .inr (.inr (by omega))
    refine ⟨_, rfl, _, rfl, rfl, _, rfl, ?_⟩
    by_cases eq : ((spell ps).drop low).take (min (high - low) 120) = ((spell qs).drop low).take (min (high - low) 120)
    · rw [eq, show (!decide (V.str (tx (((spell qs).drop low).take (min (high - low) 120))) = V.str (tx (((spell qs).drop low).take (min (high - low) 120))))) = false by rw [decide_eq_true rfl]; rfl]
      refine iteF ⟨_, rfl, high, _, _, _, _, _, rfl, (s7.trans s8).trans s9, ?_, ?_, hup⟩
      · rcases hA with hA | hA | hA
        · rcases hB with hB | hB | hB
          · exact alike_on hlh hlow (.inl hA) (.inl hB) eq
          · exact alike_on hlh hlow (.inl hA) (.inr hB) eq
          · rw [← hB]; exact hlow
        · rcases hB with hB | hB | hB
          · exact alike_on hlh hlow (.inr hA) (.inl hB) eq
          · exact alike_on hlh hlow (.inr hA) (.inr hB) eq
          · rw [← hB]; exact hlow
        · rw [← hA]; exact hlow
      · intro z hzm
        rw [List.take_add_one, hz] at hzm
        rcases List.mem_append.mp hzm with hzm | hzm
        · have := hbelow z hzm
          omega
        · have : z = (high : Int) := by simpa using hzm
          omega
    · rw [show (!decide (V.str (tx (((spell ps).drop low).take (min (high - low) 120))) = V.str (tx (((spell qs).drop low).take (min (high - low) 120))))) = true by rw [decide_eq_false (fun z => eq (tx_inj (V.str.inj z)))]; rfl]
      refine iteT ⟨_, rfl, _, rfl, _, rfl, _, _, rfl, ?_, ?_, eq, fun j hj => ⟨_, _, rfl, rfl, ?_⟩⟩
      · rw [List.length_take]; omega
      · rw [List.length_take]; omega
      · show Q (.int ((low : Int) + (j : Int))) H9
        rw [← Int.natCast_add]
        exact q1 _ _ ((s14.trans s4H8).trans s9) (unlike_on hlow hj)
  · rintro σ H7 ⟨low, y5, y6, y7, y8, y9, rfl, s7, hlow, hbelow, habove⟩
    rw [List.length_map, List.take_length] at hbelow
    have hA : size ps ≤ low := by
      by_cases hp0 : ps.length = 0
      · rw [List.eq_nil_of_length_eq_zero hp0]
        exact Nat.zero_le _
      · have := hbelow _ (hinP (ps.length - 1) (by omega))
        rw [show ps.length - 1 + 1 = ps.length by omega, List.take_length] at this
        omega
    have hB : size qs ≤ low := by
      by_cases hp0 : qs.length = 0
      · rw [List.eq_nil_of_length_eq_zero hp0]
        exact Nat.zero_le _
      · have := hbelow _ (hinQ (qs.length - 1) (by omega))
        rw [show qs.length - 1 + 1 = qs.length by omega, List.take_length] at this
        omega
    rw [List.take_of_length_le (by rw [spell_len]; exact hA), List.take_of_length_le (by rw [spell_len]; exact hB)] at hlow
    walk_at "rd"
    exact q2 _ ((s14.trans s46).trans s7) hlow

/-! ## the law's own draws -/
theorem fresh_back' {H H' : Hp} {p : Addr} (e : Same H H') (h : H' p = none) : H p = none := e.free h
def Spr (H : Hp) (p : Addr) : Prop := ∃ F S C : Int, H p = some (.lst [.int F, .int S, .int C]) ∧ 0 ≤ F ∧ 0 ≤ S ∧ S < 2305843009213693951 ∧ 0 ≤ C
/-- all but the spring at p is as it was -/
structure Go (p : Addr) (H H' : Hp) : Prop where
  keep : ∀ b o, b ≠ p → H b = some o → H' b = some o
  spr : Spr H' p
theorem Go.trans {p : Addr} {H H1 H2 : Hp} (a : Go p H H1) (b : Go p H1 H2) : Go p H H2 := ⟨fun c o hc h => b.keep c o hc (a.keep c o hc h), b.spr⟩
theorem Spr.same {p : Addr} {H H' : Hp} (h : Spr H p) (e : Same H H') : Spr H' p := by
  obtain ⟨F, S, C, h1, h2⟩ := h
  exact ⟨F, S, C, e _ _ h1, h2⟩
theorem Go.of_same {p : Addr} {H H' : Hp} (h : Spr H p) (e : Same H H') : Go p H H' := ⟨fun b o _ k => e b o k, h.same e⟩
theorem Go.refl {p : Addr} {H : Hp} (h : Spr H p) : Go p H H := ⟨fun _ _ _ k => k, h⟩
theorem Go.same {p : Addr} {H H1 H2 : Hp} (a : Go p H H1) (e : Same H1 H2) : Go p H H2 := a.trans (.of_same a.spr e)
theorem Spr.ne {p b : Addr} {H : Hp} (h : Spr H p) (hb : H b = none) : b ≠ p := fun z => by
  obtain ⟨F, S, C, h1, _⟩ := h
  rw [z, h1] at hb
  cases hb
theorem pow60 : (10 : Nat) ^ 60 ≤ 2 ^ 200 := by decide +kernel
theorem fig_step {F r : Int} {n : Nat} (h0 : 0 ≤ F) (h : F.natAbs < 2 ^ n) (r0 : 0 ≤ r) (hr : r < 1000000000000000000000000000000000000000000000000000000000000) : 0 ≤ F * 1000000000000000000000000000000000000000000000000000000000000 + r ∧ (F * 1000000000000000000000000000000000000000000000000000000000000 + r).natAbs < 2 ^ (n + 200) := by
  obtain ⟨f, rfl⟩ := Int.eq_ofNat_of_zero_le h0
  obtain ⟨g, rfl⟩ := Int.eq_ofNat_of_zero_le r0
  have e : ((f : Int) * 1000000000000000000000000000000000000000000000000000000000000 + (g : Int)) = ((f * 1000000000000000000000000000000000000000000000000000000000000 + g : Nat) : Int) := by
    rw [Int.natCast_add, Int.natCast_mul]
    rfl
  rw [e]
  refine ⟨Int.natCast_nonneg _, ?_⟩
  rw [Int.natAbs_natCast] at h ⊢
  have hg : g < 1000000000000000000000000000000000000000000000000000000000000 := by omega
  have h1 : f * 1000000000000000000000000000000000000000000000000000000000000 + g < (f + 1) * 1000000000000000000000000000000000000000000000000000000000000 := by
    rw [Nat.add_mul, Nat.one_mul]
    omega
  have h2 : (f + 1) * 1000000000000000000000000000000000000000000000000000000000000 ≤ 2 ^ n * 2 ^ 200 := Nat.mul_le_mul h pow60
  rw [Nat.pow_add]
  exact Nat.lt_of_lt_of_le h1 h2
theorem cut63 (xs : List V) (h : xs.length ≤ 63) : cutV xs none (some 63) = xs := by
  unfold cutV
  rw [HT.sIx_none, show HT.sIx xs.length xs.length (some 63) = min 63 xs.length from HT.sIx_nat xs.length xs.length 63, List.drop_zero, Nat.sub_zero, Nat.min_eq_right h, List.take_length]
def spSpring (K : PySem.W.Frag) : Sp := fun vs H Q _ => ∃ (a : Addr) (ns : List Int), vs = [.ref a] ∧ SqL K H a (ns.map V.int) ∧ ns.length ≤ 63 ∧ ∀ H' p, Same H H' → H p = none → Spr H' p → Q (.ref p) H'
theorem ok__law_spring (T : Txt K mg) : FnOk P w K mg base CX0 1 T.f__law_spring.f T.f__law_spring.fd ["script"] (spSpring K) := by
  refine T.f__law_spring.F.ok sc__law_spring (fun vs H Q E h => ?_) (fun cdv A outer s H vs Q E hr h => ?_)
  · obtain ⟨v, d, rfl, _⟩ := h
    rfl
  obtain ⟨a, ns, rfl, hs, hlen, q⟩ := h
  refine ⟨_, (pss_cons (ps_set (i := 1) sc__law_spring.nd rfl (.inl rfl) pe_int)
      (pss_cons (ps_set (i := 2) sc__law_spring.nd rfl (.inl rfl) pe_int)
      (pss_cons (ps_for PassesOwn.never rfl (pi_list (pe_slice sl_list (pv 0) po_none (po_some pe_int))) (pg_name (i := 3) sc__law_spring.nd rfl (.inl rfl))
        (pss_cons (ps_if (pt_cmpR op_ge (pe_callB call_abs (by rfl) T.b_abs (by decide +kernel) (pa_cons (pv 3) pa_nil)) (pe_op op_pow pe_int pe_int) (nomark _)) (pss_one (ps_set (i := 1) sc__law_spring.nd rfl (.inl rfl) (pe_op op_add (pe_op op_mulW (pv 1) (pe_op op_pow pe_int pe_int)) (pe_op op_mod (pe_callB call_abs (by rfl) T.b_abs (by decide +kernel) (pa_cons (pv 3) pa_nil)) (pe_op op_pow pe_int pe_int))))) pss_nil)
      (pss_one (ps_set (i := 2) sc__law_spring.nd rfl (.inl rfl) (pe_op op_mod (pe_op op_add (pe_op op_add (pe_op op_mul (pv 2) pe_int) (pe_op op_mod (pv 3) pe_int)) pe_int) pe_int)))))
      (pss_one (ps_ret (pe_lst (pa_cons (pv 1) (pa_cons (pv 2) (pa_cons pe_int pa_nil))))))))), ?_⟩
  walk_at "rd"
  refine fr_list ?_
  walk_at "rd"
  refine ⟨_, rfl, 63, rfl, a, ns.map V.int, rfl, hs, fun b nb => ?_⟩
  rw [cut63 _ (by rw [List.length_map]; exact hlen)]
  refine ⟨b, rfl, ⟨_, SqL.of upd_same⟩, ForGo.list (xs := ns.map V.int)
    (fun i σ H2 => ∃ (F S : Int) (y : Option V), σ = [some (.ref a), some (.int F), some (.int S), y] ∧ H2 = upd H b (.lst (ns.map V.int)) ∧ 0 ≤ F ∧ F.natAbs < 2 ^ (200 * i + 1) ∧ 0 ≤ S ∧ S < 2305843009213693951)
    ⟨0, 88651, none, rfl, rfl, by decide, by decide, by decide, by decide⟩ (fun i σ H2 _ ⟨_, _, _, _, e, _⟩ => by rw [e]; exact SqL.of upd_same) ?_ ?_⟩
  · rintro i x σ H2 hx ⟨F, S, y, rfl, rfl, hF0, hF, hS0, hS⟩
    rw [List.getElem?_map] at hx
    obtain ⟨c, hc, rfl⟩ : ∃ c, ns[i]? = some c ∧ V.int c = x := by
      cases e : ns[i]? with
      | none => rw [e] at hx; cases hx
      | some c => rw [e] at hx; exact ⟨c, rfl, Option.some.inj hx⟩
    have hi : i < ns.length := (List.getElem?_eq_some_iff.mp hc).1
    have hab : 0 ≤ (if c < 0 then -c else c) := by split <;> omega
    have hm1 : 0 ≤ (if c < 0 then -c else c) % 1000000000000000000000000000000000000000000000000000000000000 := Int.emod_nonneg _ (by decide)
    have hm2 : (if c < 0 then -c else c) % 1000000000000000000000000000000000000000000000000000000000000 < 1000000000000000000000000000000000000000000000000000000000000 := Int.emod_lt_of_pos _ (by decide)
    have stp := fig_step hF0 hF hm1 hm2
    walk_at "rd"
    have h60 : (10 : Int) ^ (Int.toNat 60) = 1000000000000000000000000000000000000000000000000000000000000 := by decide +kernel
    have hs1 : 0 ≤ (S * 69069 + c % 2305843009213693921 + 7) % 2305843009213693951 := Int.emod_nonneg _ (by decide)
    have hs2 : (S * 69069 + c % 2305843009213693921 + 7) % 2305843009213693951 < 2305843009213693951 := Int.emod_lt_of_pos _ (by decide)
    have hpw : 2 ^ (200 * i + 1) ≤ 2 ^ (200 * (i + 1) + 1) := Nat.pow_le_pow_right (by decide) (by omega)
    refine ⟨_, rfl, _, rfl, ⟨_, _, rfl, rfl, ⟨by decide, by decide, by decide⟩, _, _, rfl, rfl, _, rfl, ite2 (fun e => ?_) (fun e => ?_)⟩⟩
    · refine ⟨_, rfl, _, _, rfl, rfl, ⟨by decide, by decide, by decide⟩, ?_⟩
      walk_at "rd"
      rw [h60]
      refine ⟨_, _, rfl, rfl, wide_mul hF (b := 200) (by decide +kernel) (by omega) (by decide) (by omega), ?_⟩
      refine ⟨_, rfl, _, rfl, ⟨_, _, rfl, rfl, ⟨by decide, by decide, by decide⟩, ?_⟩⟩
      walk_at "rd"
      rw [h60]
      refine ⟨_, _, rfl, rfl, (show (0 : Int) < 1000000000000000000000000000000000000000000000000000000000000 by decide), _, _, rfl, rfl, ?_⟩
      refine ⟨_, rfl, _, _, rfl, rfl, .inl ⟨by omega, by omega⟩, _, rfl, _, _, rfl, rfl, (show (0 : Int) < 2305843009213693921 by decide), _, _, rfl, rfl, _, _, rfl, rfl, _, _, rfl, rfl, (show (0 : Int) < 2305843009213693951 by decide), ?_⟩
      exact ⟨_, _, _, rfl, rfl, stp.1, Nat.lt_of_lt_of_le stp.2 (Nat.pow_le_pow_right (by decide) (by omega)), hs1, hs2⟩
    · refine ⟨_, rfl, _, _, rfl, rfl, .inl ⟨by omega, by omega⟩, _, rfl, _, _, rfl, rfl, (show (0 : Int) < 2305843009213693921 by decide), _, _, rfl, rfl, _, _, rfl, rfl, _, _, rfl, rfl, (show (0 : Int) < 2305843009213693951 by decide), ?_⟩
      exact ⟨_, _, _, rfl, rfl, hF0, Nat.lt_of_lt_of_le hF hpw, hs1, hs2⟩
  · rintro σ H2 ⟨F, S, y, rfl, rfl, hF0, hF, hS0, hS⟩
    walk_at "rd"
    refine ⟨_, rfl, _, rfl, (by show 3 ≤ sizeLine; decide), fun p np => ?_⟩
    refine q _ p (fun c o e => ?_) ?_ ⟨F, S, 0, upd_same, hF0, hS0, hS, Int.le_refl _⟩
    · rw [upd_ne (ne_of_none ((same_upd nb) c o e) np)]
      exact same_upd nb c o e
    · exact fresh_back' (same_upd nb) np

def spDraw : Sp := fun vs H Q _ => ∃ (p : Addr) (m : Int), vs = [.ref p, .int m] ∧ Spr H p ∧ 0 < m ∧ m.natAbs < 2 ^ 250 ∧ ∀ H' r, Go p H H' → 0 ≤ r → r < m → Q (.int r) H'
theorem go_set {p : Addr} {H : Hp} {F S C : Int} (h1 : 0 ≤ F) (h2 : 0 ≤ S) (h3 : S < 2305843009213693951) (h4 : 0 ≤ C) : Go p H (upd H p (.lst [.int F, .int S, .int C])) :=
  ⟨fun b o hb e => by rw [upd_ne hb]; exact e, F, S, C, upd_same, h1, h2, h3, h4⟩
theorem ok__law_draw (T : Txt K mg) : FnOk P w K mg base CX0 1 T.f__law_draw.f T.f__law_draw.fd ["spring", "many"] spDraw := by
  refine T.f__law_draw.F.ok sc__law_draw (fun vs H Q E h => ?_) (fun cdv A outer s H vs Q E hr h => ?_)
  · obtain ⟨v, d, rfl, _⟩ := h
    rfl
  obtain ⟨p, m, rfl, ⟨F, S, C, hp, hF, hS, hS2, hC⟩, hm, hm2, q⟩ := h
  refine ⟨_, (pss_cons (ps_if (pt_cmpR op_gt (pe_ix ix_seq (pv 0) pe_int (fun _ _ => rfl)) pe_int (nomark _)) (pss_cons (ps_set (i := 2) sc__law_draw.nd rfl (.inl rfl) (pe_op op_mod (pe_ix ix_seq (pv 0) pe_int (fun _ _ => rfl)) (pv 1)))
      (pss_cons (ps_asg (pe_op op_fdivW (pe_ix ix_seq (pv 0) pe_int (fun _ _ => rfl)) (pv 1)) (pg_sub (pv 0) pe_int set_list))
      (pss_one (ps_ret (pv 2))))) pss_nil)
      (pss_cons (ps_asg (pe_op op_add (pe_ix ix_seq (pv 0) pe_int (fun _ _ => rfl)) pe_int) (pg_sub (pv 0) pe_int set_list))
      (pss_cons (ps_set (i := 3) sc__law_draw.nd rfl (.inl rfl) (pe_op op_mod (pe_op op_mul (pe_ix ix_seq (pv 0) pe_int (fun _ _ => rfl)) (pe_ix ix_seq (pv 0) pe_int (fun _ _ => rfl))) pe_int))
      (pss_cons (ps_asg (pe_op op_mod (pe_op op_add (pe_op op_add (pv 3) (pe_op op_mul (pe_op op_mul pe_int (pe_ix ix_seq (pv 0) pe_int (fun _ _ => rfl))) (pe_ix ix_seq (pv 0) pe_int (fun _ _ => rfl)))) pe_int) pe_int) (pg_sub (pv 0) pe_int set_list))
      (pss_one (ps_ret (pe_op op_mod (pe_op op_fdiv (pe_ix ix_seq (pv 0) pe_int (fun _ _ => rfl)) pe_int) (pv 1)))))))), ?_⟩
  walk_at "rd"
  have at0 : ∀ {a b c : V}, atI [a, b, c] 0 = some a := fun {a b c} => rfl
  refine ⟨_, rfl, ix_lst hp (at_of (j := 0) rfl rfl) ⟨_, _, rfl, rfl, _, rfl, ite2 (fun e => ?_) (fun e => ?_)⟩⟩
  · refine ⟨_, rfl, ix_lst hp (at_of (j := 0) rfl rfl) ⟨_, rfl, _, _, rfl, rfl, hm, ?_⟩⟩
    refine ⟨_, rfl, ix_lst hp (at_of (j := 0) rfl rfl) ⟨_, rfl, _, _, rfl, rfl, wide_div hm hm2 (by decide) (by decide), ?_⟩⟩
    refine ⟨_, rfl, p, _, 0, 0, rfl, rfl, hp, rfl, _, rfl, ?_⟩
    exact q _ _ (go_set (Int.ediv_nonneg hF (by omega)) hS hS2 hC) (Int.emod_nonneg _ (by omega)) (Int.emod_lt_of_pos _ hm)
  · have hq1 : 0 ≤ S * S % 2305843009213693951 := Int.emod_nonneg _ (by decide)
    have hz1 : 0 ≤ (S * S % 2305843009213693951 + 7919 * (C + 1) * S + 104729) % 2305843009213693951 := Int.emod_nonneg _ (by decide)
    have hz2 : (S * S % 2305843009213693951 + 7919 * (C + 1) * S + 104729) % 2305843009213693951 < 2305843009213693951 := Int.emod_lt_of_pos _ (by decide)
    have b1 : -(2 ^ 64) < S ∧ S < 2 ^ 64 := by omega
    refine ⟨_, rfl, ix_lst hp (at_of (j := 2) rfl rfl) ⟨_, _, rfl, rfl, ?_⟩⟩
    refine ⟨_, rfl, p, _, 2, 2, rfl, rfl, hp, rfl, ?_⟩
    have hp2 : (upd H p (.lst [.int F, .int S, .int (C + 1)])) p = some (.lst [.int F, .int S, .int (C + 1)]) := upd_same
    refine ⟨_, rfl, ix_lst hp2 (at_of (j := 1) rfl rfl) ⟨_, rfl, ix_lst hp2 (at_of (j := 1) rfl rfl) ⟨_, _, rfl, rfl, .inl b1, _, _, rfl, rfl, (show (0 : Int) < 2305843009213693951 by decide), ?_⟩⟩⟩
    refine ⟨_, rfl, _, rfl, ix_lst hp2 (at_of (j := 2) rfl rfl) ⟨_, _, rfl, rfl, .inl ⟨by decide, by decide⟩, _, rfl, ix_lst hp2 (at_of (j := 1) rfl rfl) ⟨_, _, rfl, rfl, .inr b1, _, _, rfl, rfl, _, _, rfl, rfl, _, _, rfl, rfl, (show (0 : Int) < 2305843009213693951 by decide), ?_⟩⟩⟩
    refine ⟨_, rfl, p, _, 1, 1, rfl, rfl, hp2, rfl, ?_⟩
    have hp3 : (upd (upd H p (.lst [.int F, .int S, .int (C + 1)])) p (.lst [.int F, .int ((S * S % 2305843009213693951 + 7919 * (C + 1) * S + 104729) % 2305843009213693951), .int (C + 1)])) p = some (.lst [.int F, .int ((S * S % 2305843009213693951 + 7919 * (C + 1) * S + 104729) % 2305843009213693951), .int (C + 1)]) := upd_same
    refine ⟨_, rfl, ix_lst hp3 (at_of (j := 1) rfl rfl) ⟨_, _, rfl, rfl, ⟨by decide, by decide⟩, _, rfl, _, _, rfl, rfl, hm, ?_⟩⟩
    refine q _ _ ?_ (Int.emod_nonneg _ (by omega)) (Int.emod_lt_of_pos _ hm)
    exact ⟨fun b o hb e => by rw [upd_ne hb, upd_ne hb]; exact e, F, _, _, upd_same, hF, hz1, hz2, by omega⟩

/-! ## drawn words and texts -/
theorem pow300 {m : Int} {n : Nat} (h0 : 0 ≤ m) (h : m ≤ (n : Int)) (hn : n < 2 ^ 250) : m.natAbs < 2 ^ 250 := by omega
theorem small300 {m : Int} (h0 : 0 ≤ m) (h : m ≤ 1000000) : m.natAbs < 2 ^ 250 := Nat.lt_of_le_of_lt (show m.natAbs ≤ 1000000 by omega) (by decide)
theorem k_ab : ("ab" : Str) = tx [97, 98] := by decide +kernel
theorem k_a : ("a" : Str) = tx [97] := by decide +kernel
theorem k_zy : ("zy" : Str) = tx [122, 121] := by decide +kernel
def Kind (x : List Nat) : Prop := x ≠ [] ∧ x.length ≤ 26 ∧ Plain x
theorem kinds4 {r : Int} (h0 : 0 ≤ r) (h : r < 4) : ∃ x, atI [V.str "ab", V.str "a", V.str "abcdefghijklmnopqrstuvwxyz", V.str "zy"] r = some (.str (tx x)) ∧ Kind x := by
  have : r = 0 ∨ r = 1 ∨ r = 2 ∨ r = 3 := by omega
  rcases this with rfl | rfl | rfl | rfl
  · exact ⟨[97, 98], by rw [k_ab]; rfl, by simp, by simp, by show List.all _ _ = true; decide⟩
  · exact ⟨[97], by rw [k_a]; rfl, by simp, by simp, by show List.all _ _ = true; decide⟩
  · exact ⟨alpha, by rw [← tx_alpha]; rfl, by simp [alpha], by simp [alpha], by show List.all _ _ = true; decide⟩
  · exact ⟨[122, 121], by rw [k_zy]; rfl, by simp, by simp, by show List.all _ _ = true; decide⟩
theorem plain_mem {x : List Nat} (h : Plain x) {c : Nat} (hc : c ∈ x) : alpha.contains c = true := List.all_eq_true.mp h c hc
def spWord : Sp := fun vs H Q _ => ∃ (p : Addr) (m : Int), vs = [.ref p, .int m] ∧ Spr H p ∧ 1 ≤ m ∧ m ≤ 100000 ∧ ∀ H' x, Go p H H' → x ≠ [] → (x.length : Int) ≤ m → Plain x → Q (.str (tx x)) H'
theorem ok__law_word (T : Txt K mg) : FnOk P w K mg base CX0 2 T.f__law_word.f T.f__law_word.fd ["spring", "most"] spWord := by
  refine T.f__law_word.F.ok sc__law_word (fun vs H Q E h => ?_) (fun cdv A outer s H vs Q E hr h => ?_)
  · obtain ⟨v, d, rfl, _⟩ := h
    rfl
  obtain ⟨p, m, rfl, hp, hm, hm2, q⟩ := h
  refine ⟨_, (pss_cons (ps_set (i := 2) sc__law_word.nd rfl (.inr rfl) (pe_ix ix_seq (pe_lst (pa_cons pe_str (pa_cons pe_str (pa_cons pe_str (pa_cons pe_str pa_nil))))) (pe_call (ok__law_draw T) (hr.mono (by decide)) (by rfl) T.f__law_draw.g T.f__law_draw.F.kp T.f__law_draw.b .nil pass0 (pa_cons (pv 0) (pa_cons pe_int pa_nil))) (fun _ _ => rfl)))
      (pss_one (ps_ret (pe_join pe_str (pe_lc (own := [("k", 3)]) rfl sc__law_word.nd (pi_range1 (by rfl) T.b_range (pa_cons (pe_op op_add pe_int (pe_call (ok__law_draw T) (hr.mono (by decide)) (by rfl) T.f__law_draw.g T.f__law_draw.F.kp T.f__law_draw.b .nil pass0 (pa_cons (pv 0) (pa_cons (pv 1) pa_nil)))) pa_nil)) (blkOk_by (own := [("k", 3)]) (N := N__law_word) (sc := defScope s__law_word) (by decide +kernel)) (fun _ _ _ _ _ => (pg_name (i := 3) sc__law_word.nd rfl (.inl rfl))) (fun _ _ _ _ _ => pts_nil) (fun _ _ _ _ _ => (pe_ix (ix_seqK K) (pv 2) (pe_call (ok__law_draw T) (hr.mono (by decide)) (by rfl) T.f__law_draw.g T.f__law_draw.F.kp T.f__law_draw.b .nil pass0 (pa_cons (pv 0) (pa_cons (pe_callB (call_lenK K) (by rfl) T.b_len (by decide +kernel) (pa_cons (pv 2) pa_nil)) pa_nil))) (fun _ _ => rfl)))))))), ?_⟩
  walk_at "rd"
  refine ⟨by show 4 ≤ sizeLine; decide, fun l nl => ?_⟩
  have g0 := Go.of_same hp (same_upd (o := .lst [V.str "ab", V.str "a", V.str "abcdefghijklmnopqrstuvwxyz", V.str "zy"]) nl)
  have hlp : l ≠ p := hp.ne nl
  refine ⟨_, rfl, p, 4, rfl, g0.spr, by decide, by decide, fun H1 r g1 r0 r4 => ?_⟩
  obtain ⟨x, hx, hk⟩ := kinds4 r0 r4
  refine ix_lst (g1.keep _ _ hlp upd_same) hx ⟨⟨_, rfl⟩, lc_rng1 ?_⟩
  walk_at "rd"
  refine ⟨_, rfl, _, rfl, p, m, rfl, g1.spr, by omega, small300 (by omega) (by omega), fun H2 n g2 n0 nm => ?_⟩
  refine ⟨_, _, rfl, rfl, _, rfl, by omega, by omega, fun D nD => ?_⟩
  have hDp : D ≠ p := g2.spr.ne nD
  have hn : (1 + n).toNat ≤ m.toNat := by omega
  refine LcGo.range (fun i H3 => Go p H2 H3 ∧ ∃ ws : List Nat, H3 D = some (.lst (ws.map fun c => V.str (tx [c]))) ∧ ws.length = i ∧ Plain ws)
    ⟨.of_same g2.spr (same_upd nD), [], upd_same, rfl, rfl⟩ ?_ ?_
  · rintro i H3 hi ⟨g3, ws, hD, hws, hpl⟩
    walk_at "rd"
    refine ⟨rfl, _, rfl, _, rfl, _, rfl, len_tx (by have := hk.2.1; omega) ⟨p, x.length, rfl, g3.spr, ?_, small300 (by omega) (by have := hk.2.1; omega), fun H4 r g4 r0 rl => ?_⟩⟩
    · have := List.length_pos_iff.mpr hk.1
      omega
    obtain ⟨k, rfl⟩ := Int.eq_ofNat_of_zero_le r0
    have hkl : k < x.length := by omega
    refine ix_tx (show x.length ≤ 1000000 by have := hk.2.1; omega) (at_ofA (j := k) rfl (List.getElem?_eq_getElem hkl)) ?_
    refine ⟨_, g4.keep _ _ hDp hD, ?_, ⟨fun b o hb e => ?_, ?_⟩, ws ++ [x[k]], ?_, ?_, ?_⟩
    · rw [List.length_map, hws]
      exact Nat.lt_of_lt_of_le (show i < 100000 by omega) (by decide)
    · rw [upd_ne (ne_of_none e nD)]
      exact g4.keep b o hb (g3.keep b o hb e)
    · obtain ⟨F, S, C, h1, h2⟩ := g4.spr
      exact ⟨F, S, C, by rw [upd_ne hDp.symm]; exact h1, h2⟩
    · rw [upd_same, List.map_append]
      rfl
    · rw [List.length_append, hws]
      rfl
    · show (ws ++ [x[k]]).all _ = true
      rw [List.all_append, show ws.all (alpha.contains ·) = true from hpl, List.all_cons, plain_mem hk.2.2 (List.getElem_mem hkl)]
      rfl
  · rintro H3 ⟨g3, ws, hD, hws, hpl⟩
    walk_at "rd"
    have hmap : (ws.map fun c => [c]).map tx = ws.map fun c => tx [c] := by rw [List.map_map]; rfl
    have hfl : (ws.map fun c => [c]).flatten = ws := by
      clear hpl hws hmap hD
      induction ws with
      | nil => rfl
      | cons c ws ih => rw [List.map_cons, List.flatten_cons, ih]; rfl
    refine ⟨tx [], D, (ws.map fun c => [c]).map tx, rfl, rfl, .inl (SqL.of ?_), ?_, ?_⟩
    · rw [hmap, List.map_map]
      exact hD
    · have e1 : (((ws.map fun c => [c]).map tx).map (·.length)) = (ws.map fun c => [c]).map (·.length) := by rw [List.map_map]; exact List.map_congr_left fun x _ => tx_len x
      rw [e1, sum_le_len, hfl, tx_len, List.length_nil, Nat.mul_zero, hws]
      omega
    · rw [join_tx, hfl]
      refine q _ _ (((g0.trans g1).trans g2).trans g3) (fun z => ?_) (by omega) hpl
      rw [z] at hws
      have : (1 + n).toNat = 0 := hws.symm
      omega

/-- a drawn text: a list of tuples, none of them the spring -/
def PcT (p : Addr) (H : Hp) (v : V) (x : List Nat × Nat) : Prop := ∃ b, v = .ref b ∧ b ≠ p ∧ H b = some (.tup [.str (tx x.1), .int (x.2 : Int)])
def TxtL (p : Addr) (H : Hp) (a : Addr) (ps : Pcs) : Prop := a ≠ p ∧ ∃ xs, H a = some (.lst xs) ∧ Paired (PcT p H) xs ps
theorem PcT.go {p : Addr} {H H' : Hp} {v : V} {x : List Nat × Nat} (g : Go p H H') (h : PcT p H v x) : PcT p H' v x := by
  obtain ⟨b, rfl, hb, h⟩ := h
  exact ⟨b, rfl, hb, g.keep _ _ hb h⟩
theorem TxtL.go {p : Addr} {H H' : Hp} {a : Addr} {ps : Pcs} (g : Go p H H') (h : TxtL p H a ps) : TxtL p H' a ps := by
  obtain ⟨h1, xs, h2, h3⟩ := h
  exact ⟨h1, xs, g.keep _ _ h1 h2, prd_same (fun _ _ => PcT.go g) h3⟩
def dOf (ps : Pcs) : Dt := .lst (ps.map fun x => .tup [.str x.1, .int (x.2 : Int)])
theorem pcs_dOf (ps : Pcs) : pcs (dOf ps) = ps := by
  unfold pcs dOf
  show (ps.map fun x => Dt.tup [.str x.1, .int (x.2 : Int)]).map pcOf = ps
  rw [List.map_map]
  conv => rhs; rw [← List.map_id ps]
  refine List.map_congr_left fun x _ => ?_
  show ((x.1, ((x.2 : Int)).toNat) : List Nat × Nat) = id x
  rw [Int.toNat_natCast]
  rfl
theorem isText_dOf {ps : Pcs} (h : Good ps) : isText (dOf ps) = true := by
  have hl : ((dOf ps).items).length = ps.length := by
    show (ps.map fun x => Dt.tup [.str x.1, .int (x.2 : Int)]).length = _
    rw [List.length_map]
  have hall : ((dOf ps).items).all isPiece = true := by
    refine List.all_eq_true.mpr fun d hd => ?_
    obtain ⟨x, hx, rfl⟩ := List.mem_map.mp (show d ∈ ps.map fun x => Dt.tup [.str x.1, .int (x.2 : Int)] from hd)
    obtain ⟨hw, hn⟩ := h.ok x hx
    show (true && (isWord (.str x.1) && isWhole (.int (x.2 : Int)) 1)) = true
    have e1 : isWord (.str x.1) = true := by
      show (x.1.all (alpha.contains ·) && decide (x.1.length ≤ 60) && decide (x.1 ≠ [])) = true
      rw [show x.1.all (alpha.contains ·) = true from hw.1, decide_eq_true hw.2.2, decide_eq_true hw.2.1]
      rfl
    have e2 : isWhole (.int (x.2 : Int)) 1 = true := by
      show decide ((1 : Int) ≤ (x.2 : Int)) = true
      exact decide_eq_true (by omega)
    rw [e1, e2]
    rfl
  unfold isText
  rw [hl, hall, decide_eq_true h.few, sum_size hall]
  have e : (size ((dOf ps).items.map pcOf) : Int) = (size ps : Int) := by
    have := pcs_dOf ps
    unfold pcs at this
    rw [this]
  rw [e, decide_eq_true (by have := h.all; have : ((10 ^ 30 : Nat) : Int) = (10 ^ 30 : Int) := by decide
                            omega)]
  rfl
theorem TxtL.at {K : PySem.W.Frag} {p : Addr} {H : Hp} {a : Addr} {ps : Pcs} (h : TxtL p H a ps) (hg : ∀ x ∈ ps, x.1.length ≤ 60) : At K H (.ref a) (dOf ps) := by
  obtain ⟨_, xs, h2, h3⟩ := h
  unfold dOf At
  refine ⟨a, xs, rfl, SqL.of h2, ?_⟩
  clear h2
  induction h3 with
  | nil => unfold Ats; rfl
  | @cons v x xs ps hv t ih =>
    rw [List.map_cons]
    unfold Ats
    refine ⟨_, _, rfl, ?_, ih fun y hy => hg y (List.mem_cons_of_mem _ hy)⟩
    obtain ⟨b, rfl, _, hb⟩ := hv
    unfold At
    refine ⟨b, _, rfl, SqT.of hb, ?_⟩
    unfold Ats
    refine ⟨_, _, rfl, by unfold At; exact ⟨rfl, Nat.le_trans (hg x (List.mem_cons_self ..)) (by decide)⟩, ?_⟩
    unfold Ats
    refine ⟨_, _, rfl, by unfold At; rfl, ?_⟩
    unfold Ats
    rfl

theorem go_new {p t : Addr} {H H' : Hp} {o : HO} (g : Go p H H') (nt : H' t = none) : Go p H (upd H' t o) := g.same (same_upd nt)
theorem PcT.upd {p : Addr} {H : Hp} {v : V} {x : List Nat × Nat} {o : Addr} {us vs : List V} (ho : H o = some (.lst us)) (h : PcT p H v x) : PcT p (upd H o (.lst vs)) v x := by
  obtain ⟨b, rfl, hb, h⟩ := h
  exact ⟨b, rfl, hb, by rw [upd_ne (ne_of h ho (by intro z; cases z))]; exact h⟩
theorem go_mut {p o : Addr} {H H' : Hp} {x : HO} (g : Go p H H') (no : H o = none) (hop : o ≠ p) : Go p H (upd H' o x) := by
  refine ⟨fun b u hb e => by rw [upd_ne (ne_of_none e no)]; exact g.keep b u hb e, ?_⟩
  obtain ⟨F, S, C, h1, h2⟩ := g.spr
  exact ⟨F, S, C, by rw [upd_ne hop.symm]; exact h1, h2⟩
def OkP (wide times : Int) (x : List Nat × Nat) : Prop := Plain x.1 ∧ x.1 ≠ [] ∧ (x.1.length : Int) ≤ wide ∧ 1 ≤ x.2 ∧ (x.2 : Int) ≤ times
def spTextL : Sp := fun vs H Q _ => ∃ (p : Addr) (most wide times : Int), vs = [.ref p, .int most, .int wide, .int times] ∧ Spr H p ∧ 0 ≤ most ∧ most ≤ 10000 ∧ 1 ≤ wide ∧ wide ≤ 10000 ∧ 1 ≤ times ∧ times.natAbs < 2 ^ 250 ∧
  ∀ H' a ps, Go p H H' → H a = none → TxtL p H' a ps → (ps.length : Int) ≤ most → (∀ x ∈ ps, OkP wide times x) → Q (.ref a) H'
theorem ok__law_text (T : Txt K mg) : FnOk P w K mg base CX0 3 T.f__law_text.f T.f__law_text.fd ["spring", "most", "wide", "times"] spTextL := by
  refine T.f__law_text.F.ok sc__law_text (fun vs H Q E h => ?_) (fun cdv A outer s H vs Q E hr h => ?_)
  · obtain ⟨p, m, wd, tm, rfl, _⟩ := h
    rfl
  obtain ⟨p, most, wide, times, rfl, hp, hm, hm2, hw, hw2, ht, ht2, q⟩ := h
  refine ⟨_, (pss_cons (ps_set (i := 4) sc__law_text.nd rfl (.inl rfl) (pe_lst pa_nil))
      (pss_cons (ps_for PassesOwn.never rfl (pi_range1 (by rfl) T.b_range (pa_cons (pe_call (ok__law_draw T) (hr.mono (by decide)) (by rfl) T.f__law_draw.g T.f__law_draw.F.kp T.f__law_draw.b .nil pass0 (pa_cons (pv 0) (pa_cons (pe_op op_add (pv 1) pe_int) pa_nil))) pa_nil)) (pg_name (i := 5) sc__law_text.nd rfl (.inl rfl))
        (pss_one (ps_expr (pe_bm PySem.F.plainAttrs_list PySem.F.slot_list_append PySem.F.type_list_append mt_append (pv 4) (pa_cons (pe_tup (pa_cons (pe_call (ok__law_word T) (hr.mono (by decide)) (by rfl) T.f__law_word.g T.f__law_word.F.kp T.f__law_word.b .nil pass0 (pa_cons (pv 0) (pa_cons (pv 2) pa_nil))) (pa_cons (pe_op op_add pe_int (pe_call (ok__law_draw T) (hr.mono (by decide)) (by rfl) T.f__law_draw.g T.f__law_draw.F.kp T.f__law_draw.b .nil pass0 (pa_cons (pv 0) (pa_cons (pv 3) pa_nil)))) pa_nil))) pa_nil)))))
      (pss_one (ps_ret (pv 4))))), ?_⟩
  walk_at "rd"
  refine ⟨Nat.zero_le _, fun o no => ?_⟩
  have hop : o ≠ p := hp.ne no
  have g0 := Go.of_same hp (same_upd (o := .lst []) no)
  refine fr_rng1 ?_
  walk_at "rd"
  refine ⟨_, rfl, _, rfl, _, _, rfl, rfl, p, _, rfl, g0.spr, by omega, small300 (by omega) (by omega), fun H1 n g1 n0 nm => ?_⟩
  refine ⟨n, rfl, by omega, by omega, ForGo.range
    (fun i σ H2 => ∃ y, σ = [some (.ref p), some (.int most), some (.int wide), some (.int times), some (.ref o), y] ∧ Go p H H2 ∧ ∃ ps xs, H2 o = some (.lst xs) ∧ Paired (PcT p H2) xs ps ∧ ps.length = i ∧ ∀ x ∈ ps, OkP wide times x)
    ⟨none, rfl, g0.trans g1, [], [], g1.keep _ _ hop upd_same, .nil, rfl, fun x hx => by cases hx⟩ ?_ ?_⟩
  · rintro i σ H2 hi ⟨y, rfl, g2, ps, xs, ho, hps, hl, hok⟩
    walk_at "rd"
    refine ⟨_, rfl, .inl ⟨rfl, _, SqL.of ho⟩, ?_⟩
    refine ⟨_, rfl, _, rfl, p, wide, rfl, g2.spr, hw, by omega, fun H3 x g3 hx hxl hxp => ?_⟩
    refine ⟨_, rfl, _, rfl, p, times, rfl, g3.spr, by omega, ht2, fun H4 r g4 r0 rl => ?_⟩
    obtain ⟨k, rfl⟩ := Int.eq_ofNat_of_zero_le r0
    have g34 := g3.trans g4
    have ho4 := g34.keep _ _ hop ho
    refine ⟨_, _, rfl, rfl, by show 2 ≤ sizeLine; decide, fun t nt => ?_⟩
    have hot : o ≠ t := ne_of_none ho4 nt
    have g5 := Go.of_same g4.spr (same_upd (o := .tup [.str (tx x), .int (1 + (k : Int))]) nt)
    have ho5 := g5.keep _ _ hop ho4
    have hxl2 := prd_len hps
    refine ⟨o, xs, _, rfl, rfl, ho5, ?_, _, rfl, go_mut ((g2.trans g34).trans g5) no hop, ps ++ [(x, 1 + k)], _, upd_same, ?_, ?_, ?_⟩
    · rw [hxl2, hl]
      exact Nat.lt_of_lt_of_le (show i < 100000 by omega) (by decide)
    · refine prd_snoc (prd_same (fun _ _ z => PcT.upd ho5 (PcT.go (g34.trans g5) z)) hps) (PcT.upd ho5 ⟨t, rfl, g4.spr.ne nt, ?_⟩)
      rw [upd_same]
      show some (HO.tup [.str (tx x), .int (1 + (k : Int))]) = some (HO.tup [.str (tx x), .int ((1 + k : Nat) : Int)])
      rw [Int.natCast_add]
      rfl
    · rw [List.length_append, hl]
      rfl
    · intro y hy
      rcases List.mem_append.mp hy with hy | hy
      · exact hok y hy
      · have : y = (x, 1 + k) := by simpa using hy
        subst this
        exact ⟨hxp, hx, hxl, by show 1 ≤ 1 + k; omega, by show ((1 + k : Nat) : Int) ≤ times; omega⟩
  · rintro σ H2 ⟨y, rfl, g2, ps, xs, ho, hps, hl, hok⟩
    walk_at "rd"
    exact ⟨_, rfl, q _ _ _ g2 no ⟨hop, xs, ho, hps⟩ (by omega) hok⟩

theorem spell_alpha {ps : Pcs} (h : Good ps) {c : Nat} (hc : c ∈ spell ps) : c ∈ alpha := by
  unfold spell at hc
  obtain ⟨l, hl, hcl⟩ := List.mem_flatten.mp hc
  obtain ⟨x, hx, rfl⟩ := List.mem_map.mp hl
  have := plain_mem (h.ok x hx).1.1 (rep_mem hcl)
  rw [List.contains_iff_mem] at this
  exact this
theorem ones_flat : ∀ (ws : List Nat), (ws.map fun c => [c]).flatten = ws
  | [] => rfl
  | c :: ws => by rw [List.map_cons, List.flatten_cons, ones_flat ws]; rfl
theorem ones_len (ws : List Nat) : (((ws.map fun c => [c]).map tx).map (·.length)).sum = ws.length := by
  have e1 : (((ws.map fun c => [c]).map tx).map (·.length)) = (ws.map fun c => [c]).map (·.length) := by rw [List.map_map]; exact List.map_congr_left fun x _ => tx_len x
  rw [e1, sum_le_len, ones_flat]
/-! ## the law's own letter -/
def spLawLetter : Sp := fun vs H Q _ => ∃ (p a : Addr) (ps : Pcs) (place c : Nat), vs = [.ref a, .int (place : Int)] ∧ TxtL p H a ps ∧ GoodW ps ∧ (spell ps)[place]? = some c ∧ Q (.str (tx [c])) H

theorem share {R G : Prop} (h : R → G) (r : R) : G := h r
theorem go_lst {p a : Addr} {H H' : Hp} {xs : List V} {ps : Pcs} (hap : a ≠ p) (h : H a = some (.lst xs)) (hp : Paired (PcT p H) xs ps) : TxtL p H a ps := ⟨hap, xs, h, hp⟩
theorem rep_two (x : List Nat) (c m : Nat) : rep x (c + m) = rep x c ++ rep x m := rep_add x m c
theorem rep_dbl (x : List Nat) : ∀ n, rep (x ++ x) n = rep x (2 * n)
  | 0 => rfl
  | n + 1 => by rw [rep_succ, rep_dbl x n, show 2 * (n + 1) = (2 * n + 1) + 1 by omega, rep_succ, rep_succ, List.append_assoc]
theorem rep_turn (a b : List Nat) : ∀ n, a ++ rep (b ++ a) n ++ b = rep (a ++ b) (n + 1)
  | 0 => by rw [rep_zero, List.append_nil, rep_succ, rep_zero, List.append_nil]
  | n + 1 => by
    rw [rep_succ (a ++ b), ← rep_turn a b n, rep_succ]
    simp only [List.append_assoc]
theorem rep_one (x : List Nat) : rep x 1 = x := by rw [rep_succ, rep_zero, List.append_nil]
theorem spell_two (p q : List Nat × Nat) : spell [p, q] = rep p.1 p.2 ++ rep q.1 q.2 := by rw [spell_cons, spell_cons, spell_nil, List.append_nil]
theorem spell_one (p : List Nat × Nat) : spell [p] = rep p.1 p.2 := by rw [spell_cons, spell_nil, List.append_nil]
theorem plain_take {x : List Nat} (h : Plain x) (i : Nat) : Plain (x.take i) := List.all_eq_true.mpr fun c hc => List.all_eq_true.mp h c (List.mem_of_mem_take hc)
theorem plain_drop {x : List Nat} (h : Plain x) (i : Nat) : Plain (x.drop i) := List.all_eq_true.mpr fun c hc => List.all_eq_true.mp h c (List.mem_of_mem_drop hc)
theorem plain_app {x y : List Nat} (h : Plain x) (k : Plain y) : Plain (x ++ y) := by
  show (x ++ y).all _ = true
  rw [List.all_append, show x.all (alpha.contains ·) = true from h, show y.all (alpha.contains ·) = true from k]
  rfl
def OkW (x : List Nat × Nat) : Prop := Plain x.1 ∧ x.1 ≠ [] ∧ x.1.length ≤ 60 ∧ 1 ≤ x.2
def spOther (K : PySem.W.Frag) : Sp := fun vs H Q _ => ∃ (p b : Addr) (x : List Nat) (n : Nat), vs = [.ref p, .ref b] ∧ Spr H p ∧ b ≠ p ∧ H b = some (.tup [.str (tx x), .int (n : Int)]) ∧ OkW (x, n) ∧ x.length ≤ 30 ∧ n ≤ 100000000000000000000000000 ∧
  ∀ H' a ps, Go p H H' → TxtL p H' a ps → spell ps = rep x n → ps.length ≤ 3 → (∀ y ∈ ps, OkW y) → Q (.ref a) H'
theorem ok__law_otherwise (T : Txt K mg) : FnOk P w K mg base CX0 2 T.f__law_otherwise.f T.f__law_otherwise.fd ["spring", "piece"] (spOther K) := by
  refine T.f__law_otherwise.F.ok sc__law_otherwise (fun vs H Q E h => ?_) (fun cdv A outer s H vs Q E hr h => ?_)
  · obtain ⟨p, b, x, n, rfl, _⟩ := h
    rfl
  obtain ⟨p, b, x, n, rfl, hp, hbp, hb, hw, hxl, hn, q⟩ := h
  obtain ⟨hpl, hne, hl60, hn1⟩ := id hw
  have hpos : 0 < x.length := List.length_pos_iff.mpr hne
  refine ⟨_, (pss_cons (ps_asg (pv 1) (pg_tup rfl (pgs_cons (pg_name (i := 2) sc__law_otherwise.nd rfl (.inl rfl)) (pgs_cons (pg_name (i := 3) sc__law_otherwise.nd rfl (.inl rfl)) pgs_nil))))
      (pss_cons (ps_set (i := 4) sc__law_otherwise.nd rfl (.inl rfl) (pe_call (ok__law_draw T) (hr.mono (by decide)) (by rfl) T.f__law_draw.g T.f__law_draw.F.kp T.f__law_draw.b .nil pass0 (pa_cons (pv 0) (pa_cons pe_int pa_nil))))
      (pss_cons (ps_if (PW.pt (pw_and (pt_cmpR op_eq (pv 4) pe_int (nomark _)) (pw_and1 (pt_cmpR op_gt (pv 3) pe_int (nomark _))))) (pss_cons (ps_set (i := 5) sc__law_otherwise.nd rfl (.inl rfl) (pe_op op_add pe_int (pe_call (ok__law_draw T) (hr.mono (by decide)) (by rfl) T.f__law_draw.g T.f__law_draw.F.kp T.f__law_draw.b .nil pass0 (pa_cons (pv 0) (pa_cons (pe_op op_sub (pv 3) pe_int) pa_nil)))))
      (pss_one (ps_ret (pe_lst (pa_cons (pe_tup (pa_cons (pv 2) (pa_cons (pv 5) pa_nil))) (pa_cons (pe_tup (pa_cons (pv 2) (pa_cons (pe_op op_sub (pv 3) (pv 5)) pa_nil))) pa_nil)))))) pss_nil)
      (pss_cons (ps_if (PW.pt (pw_and (pt_cmpR op_eq (pv 4) pe_int (nomark _)) (pw_and (pt_cmpR op_gt (pv 3) pe_int (nomark _)) (pw_and1 (pt_cmpR op_lt (pe_callB (call_lenK K) (by rfl) T.b_len (by decide +kernel) (pa_cons (pv 2) pa_nil)) pe_int (nomark _)))))) (pss_one (ps_ret (pe_op op_cat (pe_lst (pa_cons (pe_tup (pa_cons (pe_op op_mul_str (pv 2) pe_int) (pa_cons (pe_op op_fdiv (pv 3) pe_int) pa_nil))) pa_nil)) (pe_op op_rep (pe_lst (pa_cons (pe_tup (pa_cons (pv 2) (pa_cons pe_int pa_nil))) pa_nil)) (pe_op op_mod (pv 3) pe_int))))) pss_nil)
      (pss_cons (ps_if (PW.pt (pw_and (pt_cmpR op_eq (pv 4) pe_int (nomark _)) (pw_and (pt_cmpR op_gt (pv 3) pe_int (nomark _)) (pw_and1 (pt_cmpR op_gt (pe_callB (call_lenK K) (by rfl) T.b_len (by decide +kernel) (pa_cons (pv 2) pa_nil)) pe_int (nomark _)))))) (pss_cons (ps_set (i := 6) sc__law_otherwise.nd rfl (.inl rfl) (pe_op op_add pe_int (pe_call (ok__law_draw T) (hr.mono (by decide)) (by rfl) T.f__law_draw.g T.f__law_draw.F.kp T.f__law_draw.b .nil pass0 (pa_cons (pv 0) (pa_cons (pe_op op_sub (pe_callB (call_lenK K) (by rfl) T.b_len (by decide +kernel) (pa_cons (pv 2) pa_nil)) pe_int) pa_nil)))))
      (pss_one (ps_ret (pe_lst (pa_cons (pe_tup (pa_cons (pe_slice sl_str (pv 2) po_none (po_some (pv 6))) (pa_cons pe_int pa_nil))) (pa_cons (pe_tup (pa_cons (pe_op op_add_str (pe_slice sl_str (pv 2) (po_some (pv 6)) po_none) (pe_slice sl_str (pv 2) po_none (po_some (pv 6)))) (pa_cons (pe_op op_sub (pv 3) pe_int) pa_nil))) (pa_cons (pe_tup (pa_cons (pe_slice sl_str (pv 2) (po_some (pv 6)) po_none) (pa_cons pe_int pa_nil))) pa_nil))))))) pss_nil)
      (pss_one (ps_ret (pe_lst (pa_cons (pv 1) pa_nil))))))))), ?_⟩
  walk_at "rd"
  refine ⟨_, rfl, b, _, rfl, SqT.of hb, rfl, _, _, rfl, _, _, rfl, rfl, ?_⟩
  refine ⟨_, rfl, p, 4, rfl, hp, by decide, by decide, fun H1 r g1 r0 r4 => ?_⟩
  apply share
  · intro rest1
    refine ⟨_, rfl, rfl, _, rfl, ite2 (fun e1 => ⟨_, rfl, _, _, rfl, rfl, _, rfl, ite2 (fun e2 => ?_) (fun e2 => rest1)⟩) (fun e1 => iteF rest1)⟩
    -- cut in two
    have h2 : 1 < n := by have := of_decide_eq_true e2; omega
    refine ⟨_, rfl, _, rfl, _, _, rfl, rfl, p, _, rfl, g1.spr, by omega, by omega, fun H2 c g2 c0 cl => ⟨_, _, rfl, rfl, ?_⟩⟩
    obtain ⟨c, rfl⟩ := Int.eq_ofNat_of_zero_le c0
    have g12 := g1.trans g2
    have ec : (1 : Int) + (c : Int) = ((1 + c : Nat) : Int) := by omega
    have ed : (n : Int) - ((1 + c : Nat) : Int) = ((n - (1 + c) : Nat) : Int) := by omega
    walk_at "rd"
    rw [ec]
    refine ⟨_, rfl, _, rfl, by show 2 ≤ sizeLine; decide, fun t1 n1 => ⟨_, rfl, _, rfl, _, rfl, _, _, rfl, rfl, ?_⟩⟩
    walk_at "rd"
    rw [ed]
    refine ⟨by show 2 ≤ sizeLine; decide, fun t2 n2 => ⟨by show 2 ≤ sizeLine; decide, fun l n3 => ?_⟩⟩
    have g3 := go_new (o := .tup [V.str (tx x), V.int ((1 + c : Nat) : Int)]) g12 n1
    have g4 := go_new (o := .tup [V.str (tx x), V.int ((n - (1 + c) : Nat) : Int)]) g3 n2
    have g5 := go_new (o := .lst [V.ref t1, V.ref t2]) g4 n3
    have k1 := same_upd n3 (o := .lst [V.ref t1, V.ref t2]) _ _ (same_upd n2 _ _ (upd_same (H := H2) (a := t1) (o := .tup [V.str (tx x), V.int ((1 + c : Nat) : Int)])))
    have k2 := same_upd n3 (o := .lst [V.ref t1, V.ref t2]) _ _ (upd_same (H := upd H2 t1 (.tup [V.str (tx x), V.int ((1 + c : Nat) : Int)])) (a := t2) (o := .tup [V.str (tx x), V.int ((n - (1 + c) : Nat) : Int)]))
    refine q _ l [(x, 1 + c), (x, n - (1 + c))] g5 ⟨g4.spr.ne n3, _, upd_same, .cons ⟨t1, rfl, g12.spr.ne n1, k1⟩ (.cons ⟨t2, rfl, g3.spr.ne n2, k2⟩ .nil)⟩ ?_ (by show 2 ≤ 3; decide) ?_
    · rw [spell_two, ← rep_two]
      congr 1
      omega
    · intro y hy
      simp only [List.mem_cons, List.not_mem_nil, or_false] at hy
      rcases hy with rfl | rfl
      · exact ⟨hpl, hne, hl60, by show 1 ≤ 1 + c; omega⟩
      · exact ⟨hpl, hne, hl60, by show 1 ≤ n - (1 + c); omega⟩
  apply share
  · intro rest2
    refine ⟨_, rfl, rfl, _, rfl, ite2 (fun e1 => ⟨_, rfl, _, _, rfl, rfl, _, rfl, ite2 (fun e2 => ⟨_, rfl, len_tx (by omega) ⟨_, _, rfl, rfl, _, rfl, ite2 (fun e3 => ?_) (fun e3 => rest2)⟩⟩) (fun e2 => rest2)⟩) (fun e1 => iteF rest2)⟩
    -- the word twice, half as often
    have h2 : 1 < n := by have := of_decide_eq_true e2; omega
    have e2w : Txt.mul (tx x) 2 = tx (x ++ x) := by
      have := mul_tx x 2
      rw [show (List.replicate 2 x).flatten = x ++ x by rw [show (List.replicate 2 x).flatten = rep x 2 from rfl, rep_succ, rep_one]] at this
      exact this
    refine ⟨_, rfl, tx x, 2, rfl, rfl, mul_ok (n := 2) 60 2 hl60 (by decide) (by decide) (by decide), ?_⟩
    rw [e2w]
    have ec : (n : Int) / 2 = ((n / 2 : Nat) : Int) := by omega
    have em : (n : Int) % 2 = ((n % 2 : Nat) : Int) := by omega
    refine ⟨_, rfl, _, _, rfl, rfl, ⟨by decide, by decide⟩, ?_⟩
    walk_at "rd"
    rw [ec]
    refine ⟨by show 2 ≤ sizeLine; decide, fun t1 n1 => ⟨by show 1 ≤ sizeLine; decide, fun l1 n2 => ?_⟩⟩
    refine ⟨_, rfl, by show 2 ≤ sizeLine; decide, fun t2 n3 => ⟨by show 1 ≤ sizeLine; decide, fun l2 n4 => ⟨_, rfl, _, _, rfl, rfl, (show (0 : Int) < 2 by decide), ?_⟩⟩⟩
    walk_at "rd"
    rw [em]
    generalize hh1 : upd H1 t1 (.tup [V.str (tx (x ++ x)), V.int ((n / 2 : Nat) : Int)]) = A1 at *
    have s1 : Same H1 A1 := hh1 ▸ same_upd n1
    have k1 : A1 t1 = some (.tup [V.str (tx (x ++ x)), V.int ((n / 2 : Nat) : Int)]) := hh1 ▸ upd_same
    generalize hh2 : upd A1 l1 (.lst [V.ref t1]) = A2 at *
    have s2 : Same A1 A2 := hh2 ▸ same_upd n2
    have k2 : A2 l1 = some (.lst [V.ref t1]) := hh2 ▸ upd_same
    generalize hh3 : upd A2 t2 (.tup [V.str (tx x), V.int 1]) = A3 at *
    have s3 : Same A2 A3 := hh3 ▸ same_upd n3
    have k3 : A3 t2 = some (.tup [V.str (tx x), V.int 1]) := hh3 ▸ upd_same
    generalize hh4 : upd A3 l2 (.lst [V.ref t2]) = A4 at *
    have s4 : Same A3 A4 := hh4 ▸ same_upd n4
    have k4 : A4 l2 = some (.lst [V.ref t2]) := hh4 ▸ upd_same
    refine ⟨l2, _, [V.ref t2], rfl, rfl, k4, by omega, by omega, ?_, fun l3 n5 => ?_⟩
    · rw [Int.toNat_natCast]
      exact Nat.le_trans (show [V.ref t2].length * (n % 2) ≤ 1 by show 1 * (n % 2) ≤ 1; omega) (by decide)
    rw [Int.toNat_natCast] at *
    have hfl : (List.replicate (n % 2) [V.ref t2]).flatten = List.replicate (n % 2) (V.ref t2) := by
      have : n % 2 = 0 ∨ n % 2 = 1 := by omega
      rcases this with h | h <;> rw [h] <;> rfl
    rw [hfl] at *
    generalize hh5 : upd A4 l3 (.lst (List.replicate (n % 2) (V.ref t2))) = A5 at *
    have s5 : Same A4 A5 := hh5 ▸ same_upd n5
    have k5 : A5 l3 = some (.lst (List.replicate (n % 2) (V.ref t2))) := hh5 ▸ upd_same
    refine ⟨l1, l3, _, _, rfl, rfl, s5 _ _ (s4 _ _ (s3 _ _ k2)), k5, Nat.le_trans (show 1 + (List.replicate (n % 2) (V.ref t2)).length ≤ 2 by rw [List.length_replicate]; omega) (by decide), fun l4 n6 => ?_⟩
    generalize hh6 : upd A5 l4 (.lst ([V.ref t1] ++ List.replicate (n % 2) (V.ref t2))) = A6 at *
    have s6 : Same A5 A6 := hh6 ▸ same_upd n6
    have k6 : A6 l4 = some (.lst ([V.ref t1] ++ List.replicate (n % 2) (V.ref t2))) := hh6 ▸ upd_same
    have g2 := g1.same s1
    have g3 := g2.same s2
    have g4 := g3.same s3
    have g6 := (((g4.same s4).same s5).same s6)
    have p1 : PcT p A6 (.ref t1) (x ++ x, n / 2) := ⟨t1, rfl, g1.spr.ne n1, s6 _ _ (s5 _ _ (s4 _ _ (s3 _ _ (s2 _ _ k1))))⟩
    have p2 : PcT p A6 (.ref t2) (x, 1) := ⟨t2, rfl, g3.spr.ne n3, s6 _ _ (s5 _ _ (s4 _ _ k3))⟩
    refine q A6 l4 ((x ++ x, n / 2) :: List.replicate (n % 2) (x, 1)) g6 ⟨((g4.same s4).same s5).spr.ne n6, _, k6, .cons p1 ?_⟩ ?_ ?_ ?_
    · have : n % 2 = 0 ∨ n % 2 = 1 := by omega
      rcases this with h | h
      · rw [h]
        exact .nil
      · rw [h]
        exact .cons p2 .nil
    · rw [spell_cons, rep_dbl]
      have : n % 2 = 0 ∨ n % 2 = 1 := by omega
      rcases this with h | h
      · rw [h]
        show rep x (2 * (n / 2)) ++ [] = _
        rw [List.append_nil]
        congr 1
        omega
      · rw [h]
        show rep x (2 * (n / 2)) ++ spell [(x, 1)] = _
        rw [spell_one, ← rep_two]
        congr 1
        omega
    · rw [List.length_cons, List.length_replicate]
      omega
    · intro y hy
      rcases List.mem_cons.mp hy with rfl | hy
      · have e3' : x.length < 31 := by have := of_decide_eq_true e3; omega
        exact ⟨plain_app hpl hpl, by simp [hne], by show (x ++ x).length ≤ 60; rw [List.length_append]; omega, by show 1 ≤ n / 2; omega⟩
      · have := (List.mem_replicate.mp hy).2
        subst this
        exact ⟨hpl, hne, hl60, Nat.le_refl _⟩
  apply share
  · intro rest3
    refine ⟨_, rfl, rfl, _, rfl, ite2 (fun e1 => ⟨_, rfl, _, _, rfl, rfl, _, rfl, ite2 (fun e2 => ⟨_, rfl, len_tx (by omega) ⟨_, _, rfl, rfl, _, rfl, ite2 (fun e3 => ?_) (fun e3 => rest3)⟩⟩) (fun e2 => rest3)⟩) (fun e1 => iteF rest3)⟩
    -- the word turned
    have h2 : 1 < n := by have := of_decide_eq_true e2; omega
    have h3 : 1 < x.length := by have := of_decide_eq_true e3; omega
    refine ⟨_, rfl, _, rfl, len_tx (by omega) ⟨_, _, rfl, rfl, p, _, rfl, g1.spr, by omega, small300 (by omega) (by omega), fun H2 c g2 c0 cl => ⟨_, _, rfl, rfl, ?_⟩⟩⟩
    obtain ⟨c, rfl⟩ := Int.eq_ofNat_of_zero_le c0
    have g12 := g1.trans g2
    have ec : (1 : Int) + (c : Int) = ((1 + c : Nat) : Int) := by omega
    have ed : (n : Int) - 1 = ((n - 1 : Nat) : Int) := by omega
    have hc : 1 + c < x.length := by omega
    have hz : x.length ≤ sizeLine := Nat.le_trans hl60 (by decide)
    walk_at "rd"
    rw [ec]
    refine ⟨_, rfl, _, rfl, _, rfl, tx x, rfl, by rw [tx_len]; exact hz, ?_⟩
    rw [cut__n]
    refine ⟨by show 2 ≤ sizeLine; decide, fun t1 n1 => ?_⟩
    generalize hh1 : upd H2 t1 (.tup [V.str (tx (x.take (1 + c))), V.int 1]) = A1 at *
    have s1 : Same H2 A1 := hh1 ▸ same_upd n1
    have k1 : A1 t1 = some (.tup [V.str (tx (x.take (1 + c))), V.int 1]) := hh1 ▸ upd_same
    refine ⟨_, rfl, _, rfl, _, rfl, tx x, rfl, by rw [tx_len]; exact hz, ?_⟩
    rw [cut_n_]
    refine ⟨_, rfl, _, rfl, _, rfl, tx x, rfl, by rw [tx_len]; exact hz, ?_⟩
    rw [cut__n]
    refine ⟨_, _, rfl, rfl, ?_, ?_⟩
    · rw [tx_len, tx_len, List.length_drop, List.length_take]
      exact Nat.le_trans (show x.length - (1 + c) + min (1 + c) x.length ≤ 60 by omega) (by decide)
    rw [tx_app]
    refine ⟨_, rfl, _, _, rfl, rfl, ?_⟩
    walk_at "rd"
    rw [ed]
    refine ⟨by show 2 ≤ sizeLine; decide, fun t2 n2 => ?_⟩
    generalize hh2 : upd A1 t2 (.tup [V.str (tx (x.drop (1 + c) ++ x.take (1 + c))), V.int ((n - 1 : Nat) : Int)]) = A2 at *
    have s2 : Same A1 A2 := hh2 ▸ same_upd n2
    have k2 : A2 t2 = some (.tup [V.str (tx (x.drop (1 + c) ++ x.take (1 + c))), V.int ((n - 1 : Nat) : Int)]) := hh2 ▸ upd_same
    refine ⟨_, rfl, _, rfl, _, rfl, tx x, rfl, by rw [tx_len]; exact hz, ?_⟩
    rw [cut_n_]
    refine ⟨by show 2 ≤ sizeLine; decide, fun t3 n3 => ?_⟩
    generalize hh3 : upd A2 t3 (.tup [V.str (tx (x.drop (1 + c))), V.int 1]) = A3 at *
    have s3 : Same A2 A3 := hh3 ▸ same_upd n3
    have k3 : A3 t3 = some (.tup [V.str (tx (x.drop (1 + c))), V.int 1]) := hh3 ▸ upd_same
    refine ⟨by show 3 ≤ sizeLine; decide, fun l n4 => ?_⟩
    generalize hh4 : upd A3 l (.lst [V.ref t1, V.ref t2, V.ref t3]) = A4 at *
    have s4 : Same A3 A4 := hh4 ▸ same_upd n4
    have k4 : A4 l = some (.lst [V.ref t1, V.ref t2, V.ref t3]) := hh4 ▸ upd_same
    have gA1 := g12.same s1
    have gA2 := gA1.same s2
    have gA3 := gA2.same s3
    refine q A4 l [(x.take (1 + c), 1), (x.drop (1 + c) ++ x.take (1 + c), n - 1), (x.drop (1 + c), 1)] (gA3.same s4) ⟨gA3.spr.ne n4, _, k4, .cons ⟨t1, rfl, g12.spr.ne n1, s4 _ _ (s3 _ _ (s2 _ _ k1))⟩ (.cons ⟨t2, rfl, gA1.spr.ne n2, s4 _ _ (s3 _ _ k2)⟩ (.cons ⟨t3, rfl, gA2.spr.ne n3, s4 _ _ k3⟩ .nil))⟩ ?_ (by show 3 ≤ 3; decide) ?_
    · rw [spell_cons, spell_two]
      show rep (x.take (1 + c)) 1 ++ (rep (x.drop (1 + c) ++ x.take (1 + c)) (n - 1) ++ rep (x.drop (1 + c)) 1) = _
      rw [rep_one, rep_one, ← List.append_assoc, rep_turn, List.take_append_drop, show n - 1 + 1 = n by omega]
    · have ht : (x.take (1 + c)).length = 1 + c := by rw [List.length_take]; omega
      have hd : (x.drop (1 + c)).length = x.length - (1 + c) := List.length_drop
      intro y hy
      simp only [List.mem_cons, List.not_mem_nil, or_false] at hy
      rcases hy with rfl | rfl | rfl
      · exact ⟨plain_take hpl _, fun z => by have := congrArg List.length z; rw [ht] at this; simp at this, by show (x.take (1 + c)).length ≤ 60; omega, Nat.le_refl _⟩
      · refine ⟨plain_app (plain_drop hpl _) (plain_take hpl _), fun z => ?_, ?_, by show 1 ≤ n - 1; omega⟩
        · have := congrArg List.length z
          rw [List.length_append, ht] at this
          simp at this
        · show (x.drop (1 + c) ++ x.take (1 + c)).length ≤ 60
          rw [List.length_append, ht, hd]
          omega
      · exact ⟨plain_drop hpl _, fun z => by have := congrArg List.length z; rw [hd] at this; simp at this; omega, by show (x.drop (1 + c)).length ≤ 60; omega, Nat.le_refl _⟩
  · refine ⟨_, rfl, by show 1 ≤ sizeLine; decide, fun l nl => ?_⟩
    have g2 := go_new (o := .lst [V.ref b]) g1 nl
    refine q _ l [(x, n)] g2 ⟨g1.spr.ne nl, _, upd_same, .cons ⟨b, rfl, hbp, g2.keep _ _ hbp hb⟩ .nil⟩ (spell_one _) (by show 1 ≤ 3; decide) ?_
    intro y hy
    have : y = (x, n) := by simpa using hy
    subst this
    exact hw

/-! ## a text with one letter otherwise -/
theorem Go.free {p b : Addr} {H H' : Hp} (g : Go p H H') (hb : b ≠ p) (h : H' b = none) : H b = none := by
  cases e : H b with
  | none => rfl
  | some o => rw [g.keep b o hb e] at h; cases h
theorem set_rep {x : List Nat} (hx : x ≠ []) {n k v : Nat} (hk : k < n * x.length) : (rep x n).set k v = rep x (k / x.length) ++ (x.set (k % x.length) v ++ rep x (n - k / x.length - 1)) := by
  have hp : 0 < x.length := List.length_pos_iff.mpr hx
  have hq : k / x.length < n := (Nat.div_lt_iff_lt_mul hp).mpr hk
  have e : n = k / x.length + (1 + (n - k / x.length - 1)) := by omega
  have hm := Nat.div_add_mod' k x.length
  have hlt := Nat.mod_lt k hp
  conv => lhs; rw [e, rep_add, rep_add, rep_one]
  rw [List.set_append, if_neg (by rw [rep_len]; omega), rep_len, List.set_append, if_pos (by omega), show k - k / x.length * x.length = k % x.length by omega]
theorem plain_set {x : List Nat} (h : Plain x) (i : Nat) : Plain (x.set i 113) := by
  refine List.all_eq_true.mpr fun c hc => ?_
  rcases List.mem_or_eq_of_mem_set hc with h1 | h1
  · exact List.all_eq_true.mp h c h1
  · subst h1
    decide
theorem set_mid (x : List Nat) {i : Nat} (h : i < x.length) : x.take i ++ [113] ++ x.drop (i + 1) = x.set i 113 := by
  rw [List.set_eq_take_append_cons_drop, if_pos h, List.append_assoc]
  rfl
theorem k_q : ("q" : Str) = tx [113] := by decide +kernel
theorem flat_rep {α : Type} (v : α) : ∀ n, (List.replicate n [v]).flatten = List.replicate n v
  | 0 => rfl
  | n + 1 => by rw [List.replicate_succ, List.flatten_cons, flat_rep v n]; rfl
theorem prd_rep {α β : Type} {R : α → β → Prop} {x : α} {y : β} (h : R x y) : ∀ n, Paired R (List.replicate n x) (List.replicate n y)
  | 0 => .nil
  | n + 1 => .cons h (prd_rep h n)
theorem spell_rep (x : List Nat) (n : Nat) : spell (List.replicate (if 0 < n then 1 else 0) (x, n)) = rep x n := by
  by_cases h : 0 < n
  · rw [if_pos h]
    exact spell_one _
  · rw [if_neg h, show n = 0 by omega]
    rfl
theorem not_le_dec {a b : Nat} (h : ¬ decide ((a : Int) ≤ (b : Int)) = true) : b < a := by
  have : ¬ ((a : Int) ≤ (b : Int)) := fun z => h (decide_eq_true z)
  omega
theorem shareC {C R G : Prop} (h : (C → R) → G) (r : C → R) : G := h r
def spBent : Sp := fun vs H Q _ => ∃ (p a : Addr) (ps : Pcs) (place : Nat), vs = [.ref a, .int (place : Int)] ∧ Spr H p ∧ TxtL p H a ps ∧ (∀ y ∈ ps, OkW y) ∧ ps.length ≤ 38 ∧ place < size ps ∧
  ∀ H' b qs, Go p H H' → TxtL p H' b qs → spell qs = (spell ps).set place 113 → qs.length ≤ ps.length + 2 → (∀ y ∈ qs, OkW y) → Q (.ref b) H'
theorem ok__law_bent (T : Txt K mg) : FnOk P w K mg base CX0 1 T.f__law_bent.f T.f__law_bent.fd ["text", "place"] spBent := by
  refine T.f__law_bent.F.ok sc__law_bent (fun vs H Q E h => ?_) (fun cdv A outer s H vs Q E hr h => ?_)
  · obtain ⟨p, a, ps, place, rfl, _⟩ := h
    rfl
  obtain ⟨p, a, ps, place, rfl, hp, htx, hok, hfew, hpl, q⟩ := h
  obtain ⟨hap, xs, ha, hps⟩ := id htx
  have hxl := prd_len hps
  refine ⟨_, (pss_cons (ps_set (i := 2) sc__law_bent.nd rfl (.inl rfl) (pe_lst pa_nil))
      (pss_cons (ps_set (i := 3) sc__law_bent.nd rfl (.inl rfl) pe_int)
      (pss_cons (ps_for PassesOwn.never rfl (pi_list (pv 0)) (pg_tup rfl (pgs_cons (pg_name (i := 4) sc__law_bent.nd rfl (.inl rfl)) (pgs_cons (pg_name (i := 5) sc__law_bent.nd rfl (.inl rfl)) pgs_nil)))
        (pss_cons (ps_set (i := 6) sc__law_bent.nd rfl (.inl rfl) (pe_op op_mul (pe_callB (call_lenK K) (by rfl) T.b_len (by decide +kernel) (pa_cons (pv 4) pa_nil)) (pv 5)))
      (pss_cons (ps_if (pt_not (pt_chain op_le op_lt (pv 3) (pv 1) (pe_op op_add (pv 3) (pv 6)))) (pss_one (ps_expr (pe_bm PySem.F.plainAttrs_list PySem.F.slot_list_append PySem.F.type_list_append mt_append (pv 2) (pa_cons (pe_tup (pa_cons (pv 4) (pa_cons (pv 5) pa_nil))) pa_nil)))) (pss_cons (ps_asg (pe_callB call_divmod (by rfl) T.b_divmod (by decide +kernel) (pa_cons (pe_op op_sub (pv 1) (pv 3)) (pa_cons (pe_callB (call_lenK K) (by rfl) T.b_len (by decide +kernel) (pa_cons (pv 4) pa_nil)) pa_nil))) (pg_tup rfl (pgs_cons (pg_name (i := 7) sc__law_bent.nd rfl (.inl rfl)) (pgs_cons (pg_name (i := 8) sc__law_bent.nd rfl (.inl rfl)) pgs_nil))))
      (pss_cons (ps_set (i := 9) sc__law_bent.nd rfl (.inl rfl) (pe_op op_add_str (pe_op op_add_str (pe_slice sl_str (pv 4) po_none (po_some (pv 8))) pe_str) (pe_slice sl_str (pv 4) (po_some (pe_op op_add (pv 8) pe_int)) po_none)))
      (pss_cons (ps_set (i := 2) sc__law_bent.nd rfl (.inl rfl) (pe_op op_cat (pe_op op_cat (pv 2) (pe_op op_rep (pe_lst (pa_cons (pe_tup (pa_cons (pv 4) (pa_cons (pv 7) pa_nil))) pa_nil)) (pe_callTy call_int1 (by rfl) T.b_int (by decide +kernel) (pa_cons (pe_cmpR op_gt (pv 7) pe_int (nomark _)) pa_nil)))) (pe_lst (pa_cons (pe_tup (pa_cons (pv 9) (pa_cons pe_int pa_nil))) pa_nil))))
      (pss_one (ps_set (i := 2) sc__law_bent.nd rfl (.inl rfl) (pe_op op_cat (pv 2) (pe_op op_rep (pe_lst (pa_cons (pe_tup (pa_cons (pv 4) (pa_cons (pe_op op_sub (pe_op op_sub (pv 5) (pv 7)) pe_int) pa_nil))) pa_nil)) (pe_callTy call_int1 (by rfl) T.b_int (by decide +kernel) (pa_cons (pe_cmpR op_gt (pe_op op_sub (pv 5) (pv 7)) pe_int (nomark _)) pa_nil))))))))))
      (pss_one (ps_set (i := 3) sc__law_bent.nd rfl (.inl rfl) (pe_op op_add (pv 3) (pv 6)))))))
      (pss_one (ps_ret (pv 2)))))), ?_⟩
  walk_at "rd"
  refine ⟨Nat.zero_le _, fun o no => ?_⟩
  have hop := hp.ne no
  refine fr_list ?_
  walk_at "rd"
  refine ⟨_, rfl, a, rfl, ⟨_, SqL.of (same_upd no _ _ ha)⟩, ForGo.list (xs := xs)
    (fun i σ H2 => ∃ (f : Addr) (us : List V) (qs : Pcs) (y4 y5 y6 y7 y8 y9 : Option V), σ = [some (.ref a), some (.int (place : Int)), some (.ref f), some (.int ((size (ps.take i) : Nat) : Int)), y4, y5, y6, y7, y8, y9] ∧ Go p H H2 ∧ H f = none ∧ f ≠ p ∧ H2 f = some (.lst us) ∧ Paired (PcT p H2) us qs ∧
      spell qs = (spell (ps.take i)).set place 113 ∧ qs.length ≤ i + (if place < size (ps.take i) then 2 else 0) ∧ ∀ y ∈ qs, OkW y)
    ⟨o, [], [], none, none, none, none, none, none, rfl, go_new (Go.refl hp) no, no, hop, upd_same, .nil, rfl, Nat.zero_le _, fun y hy => by cases hy⟩ (fun i σ H2 _ ⟨_, _, _, _, _, _, _, _, _, _, g, _⟩ => SqL.of (g.keep _ _ hap ha)) ?_ ?_⟩
  · rintro i x σ H2 hx ⟨f, us, qs, y4, y5, y6, y7, y8, y9, rfl, g2, nf, hfp, hf, hus, hsp, hql, hqok⟩
    obtain ⟨y, hy, b, rfl, hbp, hb0⟩ := prd_at hps hx
    have hb := g2.keep _ _ hbp hb0
    have hi := (List.getElem?_eq_some_iff.mp hx).1
    have hgy := hok y (List.mem_of_getElem? hy)
    obtain ⟨gy1, gy2, gy3, gy4⟩ := id hgy
    have hpos : 0 < y.1.length := List.length_pos_iff.mpr gy2
    have hsz := size_take_succ ps hy
    have hspell := spell_take_succ hy
    have hlen : (spell (ps.take i)).length = size (ps.take i) := spell_len _
    have hmul : y.2 * y.1.length = y.1.length * y.2 := Nat.mul_comm _ _
    have hrl : (rep y.1 y.2).length = y.1.length * y.2 := by rw [rep_len, hmul]
    have hul := prd_len hus
    walk_at "rd"
    refine ⟨b, _, rfl, SqT.of hb, rfl, _, _, rfl, _, _, rfl, rfl, ?_⟩
    refine ⟨_, rfl, len_tx (by omega) ⟨_, rfl, _, _, rfl, rfl, .inl ⟨by omega, by omega⟩, ?_⟩⟩
    have emul : (y.1.length : Int) * (y.2 : Int) = ((y.1.length * y.2 : Nat) : Int) := (Int.natCast_mul _ _).symm
    walk_at "rd"
    rw [emul]
    have eadd : ((size (ps.take i) : Nat) : Int) + ((y.1.length * y.2 : Nat) : Int) = ((size (ps.take (i + 1)) : Nat) : Int) := by omega
    -- what holds behind the turn
    apply shareC (C := place < size (ps.take i) ∨ size (ps.take (i + 1)) ≤ place)
    · intro plain
      refine ⟨_, rfl, _, rfl, _, _, rfl, rfl, _, rfl, ite2 (fun e1 => ⟨_, rfl, _, rfl, _, _, rfl, rfl, _, _, rfl, rfl, _, rfl, ?_⟩) (fun e1 => ⟨_, rfl, iteT (plain (.inl (not_le_dec e1)))⟩)⟩
      walk_at "rd"
      rw [eadd]
      by_cases e2 : place < size (ps.take (i + 1))
      · rw [show decide ((place : Int) < ((size (ps.take (i + 1)) : Nat) : Int)) = true from decide_eq_true (by omega)]
        refine iteF ?_
        have hge : size (ps.take i) ≤ place := by have := of_decide_eq_true e1; omega
        have esub : (place : Int) - ((size (ps.take i) : Nat) : Int) = ((place - size (ps.take i) : Nat) : Int) := by omega
        refine ⟨_, rfl, _, rfl, _, _, rfl, rfl, ?_⟩
        walk_at "rd"
        rw [esub]
        refine ⟨_, rfl, len_tx (by omega) ⟨_, _, rfl, ⟨by omega, by omega⟩, fun t nt => ?_⟩⟩
        have ediv : ((place - size (ps.take i) : Nat) : Int) / (y.1.length : Int) = (((place - size (ps.take i)) / y.1.length : Nat) : Int) := (Int.natCast_ediv _ _).symm
        have emod : ((place - size (ps.take i) : Nat) : Int) % (y.1.length : Int) = (((place - size (ps.take i)) % y.1.length : Nat) : Int) := (Int.natCast_emod _ _).symm
        rw [ediv, emod] at *
        generalize hk : place - size (ps.take i) = k at *
        have hkl : k < y.2 * y.1.length := by omega
        have hq : k / y.1.length < y.2 := (Nat.div_lt_iff_lt_mul hpos).mpr hkl
        have hr := Nat.mod_lt k hpos
        generalize hA0 : upd H2 t (.tup [V.int ((k / y.1.length : Nat) : Int), V.int ((k % y.1.length : Nat) : Int)]) = A0 at *
        have s0 : Same H2 A0 := hA0 ▸ same_upd nt
        have k0 : A0 t = some (.tup [V.int ((k / y.1.length : Nat) : Int), V.int ((k % y.1.length : Nat) : Int)]) := hA0 ▸ upd_same
        generalize hqq : k / y.1.length = qo at *
        generalize hrr : k % y.1.length = ro at *
        refine ⟨t, _, rfl, SqT.of k0, rfl, _, _, rfl, _, _, rfl, rfl, ?_⟩
        have hz : y.1.length ≤ sizeLine := Nat.le_trans gy3 (by decide)
        refine ⟨_, rfl, _, rfl, _, rfl, tx y.1, rfl, by rw [tx_len]; exact hz, ?_⟩
        rw [cut__n, k_q]
        refine ⟨_, _, rfl, rfl, ?_, ?_⟩
        · rw [tx_len, tx_len, List.length_take]
          exact Nat.le_trans (show min ro y.1.length + 1 ≤ 61 by omega) (by decide)
        rw [tx_app]
        refine ⟨_, rfl, _, rfl, _, _, rfl, rfl, _, rfl, tx y.1, rfl, by rw [tx_len]; exact hz, ?_⟩
        rw [show (ro : Int) + 1 = ((ro + 1 : Nat) : Int) by omega, cut_n_]
        refine ⟨_, _, rfl, rfl, ?_, ?_⟩
        · rw [tx_len, tx_len, List.length_append, List.length_take, List.length_drop]
          exact Nat.le_trans (show min ro y.1.length + [113].length + (y.1.length - (ro + 1)) ≤ 200 by show min ro y.1.length + 1 + _ ≤ 200; omega) (by decide)
        rw [tx_app, set_mid _ hr]
        have hset : (rep y.1 y.2).set k 113 = rep y.1 qo ++ (y.1.set ro 113 ++ rep y.1 (y.2 - qo - 1)) := by
          have := set_rep gy2 (n := y.2) (k := k) (v := 113) hkl
          rw [hqq, hrr] at this
          exact this
        have g3 := g2.same s0
        -- the turns ahead, the letter's own word, the turns behind
        refine ⟨_, rfl, _, rfl, _, rfl, by show 2 ≤ sizeLine; decide, fun t1 n1 => ?_⟩
        generalize hA1 : upd A0 t1 (.tup [V.str (tx y.1), V.int (qo : Int)]) = A1 at *
        have s1 : Same A0 A1 := hA1 ▸ same_upd n1
        have k1 : A1 t1 = some (.tup [V.str (tx y.1), V.int (qo : Int)]) := hA1 ▸ upd_same
        have g4 := g3.same s1
        refine ⟨by show 1 ≤ sizeLine; decide, fun l1 n2 => ?_⟩
        generalize hA2 : upd A1 l1 (.lst [V.ref t1]) = A2 at *
        have s2 : Same A1 A2 := hA2 ▸ same_upd n2
        have k2 : A2 l1 = some (.lst [V.ref t1]) := hA2 ▸ upd_same
        have g5 := g4.same s2
        refine ⟨_, rfl, _, _, rfl, rfl, .inr ⟨_, rfl, ?_⟩⟩
        have ei : (if (decide ((0 : Int) < (qo : Int))) = true then (1 : Int) else 0) = ((if 0 < qo then 1 else 0 : Nat) : Int) := by
          by_cases h0 : 0 < qo
          · rw [if_pos (decide_eq_true (by omega)), if_pos h0]
            rfl
          · rw [if_neg (fun z => h0 (by have := of_decide_eq_true z; omega)), if_neg h0]
            rfl
        walk_at "rd"
        rw [ei]
        generalize hc1 : (if 0 < qo then 1 else 0 : Nat) = c1 at *
        have hc1l : c1 ≤ 1 := by rw [← hc1]; split <;> omega
        refine ⟨l1, _, [V.ref t1], rfl, rfl, k2, by omega, by omega, ?_, fun l2 n3 => ?_⟩
        · rw [Int.toNat_natCast]
          exact Nat.le_trans (show [V.ref t1].length * c1 ≤ 1 by show 1 * c1 ≤ 1; omega) (by decide)
        rw [Int.toNat_natCast, flat_rep] at *
        generalize hA3 : upd A2 l2 (.lst (List.replicate c1 (V.ref t1))) = A3 at *
        have s3 : Same A2 A3 := hA3 ▸ same_upd n3
        have k3 : A3 l2 = some (.lst (List.replicate c1 (V.ref t1))) := hA3 ▸ upd_same
        have g6 := g5.same s3
        have q38 : qs.length ≤ 38 := by
          rw [if_neg (by omega)] at hql
          omega
        refine ⟨f, l2, us, _, rfl, rfl, s3 _ _ (s2 _ _ (s1 _ _ (s0 _ _ hf))), k3, Nat.le_trans (show us.length + (List.replicate c1 (V.ref t1)).length ≤ 39 by rw [List.length_replicate]; omega) (by decide), fun f2 n4 => ?_⟩
        generalize hA4 : upd A3 f2 (.lst (us ++ List.replicate c1 (V.ref t1))) = A4 at *
        have s4 : Same A3 A4 := hA4 ▸ same_upd n4
        have k4 : A4 f2 = some (.lst (us ++ List.replicate c1 (V.ref t1))) := hA4 ▸ upd_same
        have g7 := g6.same s4
        refine ⟨_, rfl, by show 2 ≤ sizeLine; decide, fun t2 n5 => ?_⟩
        generalize hA5 : upd A4 t2 (.tup [V.str (tx (y.1.set ro 113)), V.int 1]) = A5 at *
        have s5 : Same A4 A5 := hA5 ▸ same_upd n5
        have k5 : A5 t2 = some (.tup [V.str (tx (y.1.set ro 113)), V.int 1]) := hA5 ▸ upd_same
        have g8 := g7.same s5
        refine ⟨by show 1 ≤ sizeLine; decide, fun l3 n6 => ?_⟩
        generalize hA6 : upd A5 l3 (.lst [V.ref t2]) = A6 at *
        have s6 : Same A5 A6 := hA6 ▸ same_upd n6
        have k6 : A6 l3 = some (.lst [V.ref t2]) := hA6 ▸ upd_same
        have g9 := g8.same s6
        refine ⟨f2, l3, _, _, rfl, rfl, s6 _ _ (s5 _ _ k4), k6, Nat.le_trans (show (us ++ List.replicate c1 (V.ref t1)).length + [V.ref t2].length ≤ 40 by rw [List.length_append, List.length_replicate]; show us.length + c1 + 1 ≤ 40; omega) (by decide), fun f3 n7 => ?_⟩
        generalize hA7 : upd A6 f3 (.lst (us ++ List.replicate c1 (V.ref t1) ++ [V.ref t2])) = A7 at *
        have s7 : Same A6 A7 := hA7 ▸ same_upd n7
        have k7 : A7 f3 = some (.lst (us ++ List.replicate c1 (V.ref t1) ++ [V.ref t2])) := hA7 ▸ upd_same
        have g10 := g9.same s7
        have em1 : (y.2 : Int) - (qo : Int) - 1 = ((y.2 - qo - 1 : Nat) : Int) := by omega
        refine ⟨_, rfl, _, rfl, _, rfl, _, rfl, _, _, rfl, rfl, _, _, rfl, rfl, ?_⟩
        walk_at "rd"
        rw [em1]
        refine ⟨by show 2 ≤ sizeLine; decide, fun t3 n8 => ?_⟩
        generalize hA8 : upd A7 t3 (.tup [V.str (tx y.1), V.int ((y.2 - qo - 1 : Nat) : Int)]) = A8 at *
        have s8 : Same A7 A8 := hA8 ▸ same_upd n8
        have k8 : A8 t3 = some (.tup [V.str (tx y.1), V.int ((y.2 - qo - 1 : Nat) : Int)]) := hA8 ▸ upd_same
        have g11 := g10.same s8
        refine ⟨by show 1 ≤ sizeLine; decide, fun l4 n9 => ?_⟩
        generalize hA9 : upd A8 l4 (.lst [V.ref t3]) = A9 at *
        have s9 : Same A8 A9 := hA9 ▸ same_upd n9
        have k9 : A9 l4 = some (.lst [V.ref t3]) := hA9 ▸ upd_same
        have g12 := g11.same s9
        refine ⟨_, rfl, _, rfl, _, _, rfl, rfl, _, _, rfl, rfl, .inr ⟨_, rfl, ?_⟩⟩
        have ei2 : (if (decide ((1 : Int) < (y.2 : Int) - (qo : Int))) = true then (1 : Int) else 0) = ((if 0 < y.2 - qo - 1 then 1 else 0 : Nat) : Int) := by
          by_cases h0 : 0 < y.2 - qo - 1
          · rw [if_pos (decide_eq_true (by omega)), if_pos h0]
            rfl
          · rw [if_neg (fun z => h0 (by have := of_decide_eq_true z; omega)), if_neg h0]
            rfl
        walk_at "rd"
        rw [ei2]
        generalize hc2 : (if 0 < y.2 - qo - 1 then 1 else 0 : Nat) = c2 at *
        have hc2l : c2 ≤ 1 := by rw [← hc2]; split <;> omega
        refine ⟨l4, _, [V.ref t3], rfl, rfl, k9, by omega, by omega, ?_, fun l5 n10 => ?_⟩
        · rw [Int.toNat_natCast]
          exact Nat.le_trans (show [V.ref t3].length * c2 ≤ 1 by show 1 * c2 ≤ 1; omega) (by decide)
        rw [Int.toNat_natCast, flat_rep] at *
        generalize hA10 : upd A9 l5 (.lst (List.replicate c2 (V.ref t3))) = A10 at *
        have s10 : Same A9 A10 := hA10 ▸ same_upd n10
        have k10 : A10 l5 = some (.lst (List.replicate c2 (V.ref t3))) := hA10 ▸ upd_same
        have g13 := g12.same s10
        refine ⟨f3, l5, _, _, rfl, rfl, s10 _ _ (s9 _ _ (s8 _ _ k7)), k10, Nat.le_trans (show (us ++ List.replicate c1 (V.ref t1) ++ [V.ref t2]).length + (List.replicate c2 (V.ref t3)).length ≤ 42 by rw [List.length_append, List.length_append, List.length_replicate, List.length_replicate]; show us.length + c1 + 1 + c2 ≤ 42; omega) (by decide), fun f4 n11 => ?_⟩
        generalize hA11 : upd A10 f4 (.lst (us ++ List.replicate c1 (V.ref t1) ++ [V.ref t2] ++ List.replicate c2 (V.ref t3))) = A11 at *
        have s11 : Same A10 A11 := hA11 ▸ same_upd n11
        have k11 : A11 f4 = some (.lst (us ++ List.replicate c1 (V.ref t1) ++ [V.ref t2] ++ List.replicate c2 (V.ref t3))) := hA11 ▸ upd_same
        have g14 := g13.same s11
        have hf4p := g13.spr.ne n11
        refine ⟨_, rfl, _, rfl, _, _, rfl, rfl, ?_⟩
        walk_at "rd"
        rw [eadd]
        have sAll : Same H2 A11 := (((((((((((s0.trans s1).trans s2).trans s3).trans s4).trans s5).trans s6).trans s7).trans s8).trans s9).trans s10).trans s11)
        have p1 : PcT p A11 (.ref t1) (y.1, qo) := ⟨t1, rfl, g3.spr.ne n1, ((((((((((s2.trans s3).trans s4).trans s5).trans s6).trans s7).trans s8).trans s9).trans s10).trans s11)) _ _ k1⟩
        have p2 : PcT p A11 (.ref t2) (y.1.set ro 113, 1) := ⟨t2, rfl, g7.spr.ne n5, ((((((s6.trans s7).trans s8).trans s9).trans s10).trans s11)) _ _ k5⟩
        have p3 : PcT p A11 (.ref t3) (y.1, y.2 - qo - 1) := ⟨t3, rfl, g10.spr.ne n8, (((s9.trans s10).trans s11)) _ _ k8⟩
        refine ⟨f4, _, qs ++ List.replicate c1 (y.1, qo) ++ [(y.1.set ro 113, 1)] ++ List.replicate c2 (y.1, y.2 - qo - 1), _, _, _, _, _, _, rfl, g14, g13.free hf4p n11, hf4p, k11, ?_, ?_, ?_, ?_⟩
        · exact prd_app (prd_app (prd_app (prd_same (fun _ _ z => PcT.go (.of_same g2.spr sAll) z) hus) (prd_rep p1 c1)) (.cons p2 .nil)) (prd_rep p3 c2)
        · rw [spell_app, spell_app, spell_app, hsp, spell_one, rep_one, ← hc1, ← hc2, spell_rep, spell_rep, hspell, List.set_append, if_neg (by omega), hlen, hk, hset, List.set_eq_of_length_le (by omega)]
          simp only [List.append_assoc]
        · rw [if_neg (by omega)] at hql
          rw [if_pos (by omega), List.length_append, List.length_append, List.length_append, List.length_replicate, List.length_replicate]
          show qs.length + c1 + 1 + c2 ≤ i + 1 + 2
          omega
        · intro z hz
          rcases List.mem_append.mp hz with hz | hz
          · rcases List.mem_append.mp hz with hz | hz
            · rcases List.mem_append.mp hz with hz | hz
              · exact hqok z hz
              · obtain ⟨h1, h2⟩ := List.mem_replicate.mp hz
                subst h2
                refine ⟨gy1, gy2, gy3, ?_⟩
                show 1 ≤ qo
                rw [← hc1] at h1
                split at h1 <;> omega
            · have : z = (y.1.set ro 113, 1) := by simpa using hz
              subst this
              refine ⟨plain_set gy1 _, fun h0 => ?_, by show (y.1.set ro 113).length ≤ 60; rw [List.length_set]; exact gy3, Nat.le_refl _⟩
              have := congrArg List.length h0
              rw [List.length_set] at this
              simp at this
              exact gy2 this
          · obtain ⟨h1, h2⟩ := List.mem_replicate.mp hz
            subst h2
            refine ⟨gy1, gy2, gy3, ?_⟩
            show 1 ≤ y.2 - qo - 1
            rw [← hc2] at h1
            split at h1 <;> omega
      · rw [show decide ((place : Int) < ((size (ps.take (i + 1)) : Nat) : Int)) = false from decide_eq_false (by omega)]
        exact iteT (plain (.inr (by omega)))
    · intro hC
      refine ⟨_, rfl, .inl ⟨rfl, _, SqL.of hf⟩, _, rfl, _, rfl, by show 2 ≤ sizeLine; decide, fun t nt => ?_⟩
      have hft : f ≠ t := ne_of_none hf nt
      have q38 : qs.length ≤ 39 := by split at hql <;> omega
      refine ⟨f, us, _, rfl, rfl, by rw [upd_ne hft]; exact hf, Nat.lt_of_le_of_lt (show us.length ≤ 39 by omega) (by decide), _, rfl, _, rfl, _, _, rfl, rfl, ?_⟩
      walk_at "rd"
      rw [eadd]
      have hf2 : (upd H2 t (.tup [V.str (tx y.1), V.int (y.2 : Int)])) f = some (.lst us) := by rw [upd_ne hft]; exact hf
      have g3 := go_new (o := .tup [V.str (tx y.1), V.int (y.2 : Int)]) g2 nt
      refine ⟨f, us ++ [V.ref t], qs ++ [y], _, _, _, _, _, _, rfl, go_mut g3 nf hfp, nf, hfp, upd_same, ?_, ?_, ?_, ?_⟩
      · exact prd_snoc (prd_same (fun _ _ z => PcT.upd hf2 (PcT.go (.of_same g2.spr (same_upd nt)) z)) hus) (PcT.upd hf2 ⟨t, rfl, g2.spr.ne nt, upd_same⟩)
      · rw [spell_app, hsp, spell_one, hspell]
        rcases hC with h | h
        · rw [List.set_append, if_pos (by omega)]
        · rw [List.set_eq_of_length_le (by omega), List.set_eq_of_length_le (by rw [List.length_append]; omega)]
      · rw [List.length_append]
        show qs.length + 1 ≤ _
        by_cases h : place < size (ps.take i)
        · rw [if_pos h] at hql
          rw [if_pos (by omega)]
          omega
        · rw [if_neg h] at hql
          rw [if_neg (by omega)]
          omega
      · intro z hz
        rcases List.mem_append.mp hz with hz | hz
        · exact hqok z hz
        · have : z = y := by simpa using hz
          subst this
          exact hgy
  · rintro σ H2 ⟨f, us, qs, y4, y5, y6, y7, y8, y9, rfl, g2, nf, hfp, hf, hus, hsp, hql, hqok⟩
    rw [hxl, List.take_length] at hsp hql
    walk_at "rd"
    exact ⟨_, rfl, q _ _ _ g2 ⟨hfp, us, hf, hus⟩ hsp (by split at hql <;> omega) hqok⟩

/-! ## two words of one turning, said far -/
def oddTo (x y : List Nat) (n : Nat) : List Nat := (List.range n).filter fun i => x[i % x.length]? != y[i % y.length]?
def dueV (L : List Nat) (m0 m1 : Nat) : V := match L with
  | [] => if m0 = m1 then .non else .int (m0 : Int)
  | a :: _ => if m0 ≤ a then .int (m0 : Int) else .int (a : Int)
theorem oddTo_succ (x y : List Nat) (n : Nat) : oddTo x y (n + 1) = oddTo x y n ++ (if x[n % x.length]? != y[n % y.length]? then [n] else []) := by
  unfold oddTo
  rw [List.range_succ, List.filter_append]
  congr 1
  rw [List.filter_cons]
  split <;> rfl
/-- the first odd place, or none -/
theorem oddTo_spec (x y : List Nat) : ∀ n, (oddTo x y n = [] ∧ ∀ i, i < n → x[i % x.length]? = y[i % y.length]?) ∨
    ∃ a r, oddTo x y n = a :: r ∧ a < n ∧ x[a % x.length]? ≠ y[a % y.length]? ∧ ∀ i, i < a → x[i % x.length]? = y[i % y.length]?
  | 0 => .inl ⟨rfl, fun i h => by omega⟩
  | n + 1 => by
    rw [oddTo_succ]
    rcases oddTo_spec x y n with ⟨h1, h2⟩ | ⟨a, r, h1, h2, h3, h4⟩
    · rw [h1, List.nil_append]
      by_cases hn : x[n % x.length]? = y[n % y.length]?
      · refine .inl ⟨by rw [if_neg (by rw [hn]; simp)], fun i hi => ?_⟩
        by_cases e : i = n
        · rw [e]
          exact hn
        · exact h2 i (by omega)
      · exact .inr ⟨n, [], by rw [if_pos (by simpa using hn)], by omega, hn, h2⟩
    · exact .inr ⟨a, _, by rw [h1, List.cons_append], by omega, h3, h4⟩
theorem long_due {x y g : List Nat} {t0 t1 : Nat} (hx : x ≠ []) (hy : y ≠ []) (hx60 : x.length ≤ 60) (hy60 : y.length ≤ 60) (hxg : x = g.take x.length) (hyg : y = g.take y.length)
    (ht : (∃ k, 5 ≤ k ∧ t0 = k ∧ t1 = k) ∨ ∃ k, 5 ≤ k ∧ t0 = k * y.length ∧ t1 = k * x.length) :
    (dueV (oddTo x y (x.length + y.length)) (min (x.length * t0) (y.length * t1)) (max (x.length * t0) (y.length * t1)) = .non ∧ rep x t0 = rep y t1) ∨
    ∃ j : Nat, dueV (oddTo x y (x.length + y.length)) (min (x.length * t0) (y.length * t1)) (max (x.length * t0) (y.length * t1)) = .int (j : Int) ∧ Unlike (rep x t0) (rep y t1) j := by
  have hp : 0 < x.length := List.length_pos_iff.mpr hx
  have hq : 0 < y.length := List.length_pos_iff.mpr hy
  have c0 : t0 * x.length = x.length * t0 := Nat.mul_comm _ _
  have c1 : t1 * y.length = y.length * t1 := Nat.mul_comm _ _
  have lx : (rep x t0).length = x.length * t0 := by rw [rep_len, c0]
  have ly : (rep y t1).length = y.length * t1 := by rw [rep_len, c1]
  have gx : ∀ i, i < x.length * t0 → (rep x t0)[i]? = x[i % x.length]? := fun i h => rep_get _ _ _ (by rw [c0]; exact h)
  have gy : ∀ i, i < y.length * t1 → (rep y t1)[i]? = y[i % y.length]? := fun i h => rep_get _ _ _ (by rw [c1]; exact h)
  generalize hm0 : min (x.length * t0) (y.length * t1) = m0
  generalize hm1 : max (x.length * t0) (y.length * t1) = m1
  have hx0 : m0 ≤ x.length * t0 := by omega
  have hy0 : m0 ≤ y.length * t1 := by omega
  -- alike to the shorter's end: one ends there, or they are one
  have fin : (∀ i, i < m0 → x[i % x.length]? = y[i % y.length]?) → (m0 = m1 → rep x t0 = rep y t1) ∧ (m0 ≠ m1 → Unlike (rep x t0) (rep y t1) m0) := fun h => by
    have htk : (rep x t0).take m0 = (rep y t1).take m0 := by
      apply List.ext_getElem?
      intro i
      rw [List.getElem?_take, List.getElem?_take]
      by_cases hi : i < m0
      · rw [if_pos hi, if_pos hi, gx i (by omega), gy i (by omega), h i hi]
      · rw [if_neg hi, if_neg hi]
    refine ⟨fun e => ?_, fun e => ⟨htk, fun z => ?_⟩⟩
    · rw [List.take_of_length_le (by omega), List.take_of_length_le (by omega)] at htk
      exact htk
    · by_cases hc : x.length * t0 ≤ y.length * t1
      · rw [List.getElem?_eq_none (by omega)] at z
        have := List.getElem?_eq_none_iff.mp z.symm
        omega
      · rw [List.getElem?_eq_none (l := rep y t1) (by omega)] at z
        have := List.getElem?_eq_none_iff.mp z
        omega
  rcases oddTo_spec x y (x.length + y.length) with ⟨h1, h2⟩ | ⟨a, r, h1, h2, h3, h4⟩
  · rw [h1]
    have hall : ∀ i, i < m0 → x[i % x.length]? = y[i % y.length]? := fun i hi => by
      have := two_rounds (u := fun i => x[i % x.length]?) (v := fun i => y[i % y.length]?) (low := 0) (high := i + x.length + y.length + 1) hp hq (fun i _ _ => by show x[(i + x.length) % x.length]? = _; rw [Nat.add_mod_right]) (fun i _ _ => by show y[(i + y.length) % y.length]? = _; rw [Nat.add_mod_right]) (fun i _ h _ => h2 i (by omega)) i i (Nat.le_refl _) (Nat.zero_le _) (by omega)
      exact this
    obtain ⟨f1, f2⟩ := fin hall
    by_cases e : m0 = m1
    · exact .inl ⟨if_pos e, f1 e⟩
    · exact .inr ⟨m0, if_neg e, f2 e⟩
  · rw [h1]
    by_cases ha : m0 ≤ a
    · obtain ⟨f1, f2⟩ := fin fun i hi => h4 i (by omega)
      refine .inr ⟨m0, if_pos ha, f2 fun e => ?_⟩
      -- of one size they can't be odd there
      rcases ht with ⟨k, hk, e0, e1⟩ | ⟨k, hk, e0, e1⟩
      · have hl : x.length = y.length := by
          have h5 : x.length * k = y.length * k := by rw [e0] at hm0 hm1; rw [e1] at hm0 hm1; omega
          exact Nat.eq_of_mul_eq_mul_right (by omega) h5
        exact h3 (by rw [hxg, hyg, hl])
      · have h5 : x.length + y.length ≤ x.length * t0 := by
          rw [e0]
          have h6 : 5 * (x.length * y.length) ≤ x.length * (k * y.length) := by
            rw [Nat.mul_left_comm]
            exact Nat.mul_le_mul_left _ (Nat.mul_le_mul_right _ hk)
          have h7 : x.length ≤ x.length * y.length := Nat.le_mul_of_pos_right _ hq
          have h8 : y.length ≤ x.length * y.length := Nat.le_mul_of_pos_left _ hp
          omega
        omega
    · refine .inr ⟨a, if_neg ha, ?_, ?_⟩
      · apply List.ext_getElem?
        intro i
        rw [List.getElem?_take, List.getElem?_take]
        by_cases hi : i < a
        · rw [if_pos hi, if_pos hi, gx i (by omega), gy i (by omega), h4 i hi]
        · rw [if_neg hi, if_neg hi]
      · rw [gx a (by omega), gy a (by omega)]
        exact h3
/-- data of whole numbers -/
def dInts (ns : List Int) : PyData := .list (ns.map PyData.int)
theorem dpAll_ints {K : PySem.W.Frag} {H : Hp} : ∀ ns : List Int, DpAll K H (ns.map V.int) (ns.map PyData.int)
  | [] => .nil
  | n :: ns => .cons (.int n) (dpAll_ints ns)
theorem lay_ints : ∀ ns : List Int, PyData.canLayAll0 (ns.map PyData.int) = true
  | [] => rfl
  | n :: ns => by
    show (PyData.canLay0 (.int n) && PyData.canLayAll0 (ns.map PyData.int)) = true
    rw [lay_ints ns]
    rfl
theorem deep_ints : ∀ ns : List Int, PyData.depthAll (ns.map PyData.int) = 0
  | [] => rfl
  | n :: ns => by
    show max (PyData.depth (.int n)) (PyData.depthAll (ns.map PyData.int)) = 0
    rw [deep_ints ns]
    rfl
theorem shaped_ints (ns : List Int) : SeqAt.shaped (dInts ns) = true := by
  show (PyData.canLayAll0 (ns.map PyData.int) && decide (PyData.depthAll (ns.map PyData.int) + 1 ≤ 64)) = true
  rw [lay_ints, deep_ints]
  rfl
theorem two_sorted {a b : Int} {ns : List Int} (h : ns.Perm [a, b]) (hs : ns.Pairwise (· ≤ ·)) : ns = [min a b, max a b] := by
  have hl := h.length_eq
  match ns, hl with
  | [x, y], _ =>
    have hxy : x ≤ y := by
      have := (List.pairwise_cons.mp hs).1 y (List.mem_cons_self ..)
      exact this
    have hx : x = a ∨ x = b := by
      have := h.mem_iff.mp (List.mem_cons_self (a := x) (l := [y]))
      simpa using this
    rcases hx with rfl | rfl
    · have h2 := (List.perm_cons x).mp h
      have : y = b := by simpa using List.perm_singleton.mp h2
      subst this
      rw [Int.min_eq_left hxy, Int.max_eq_right hxy]
    · have h2 := (List.perm_cons x).mp (h.trans (List.Perm.swap ..))
      have : y = a := by simpa using List.perm_singleton.mp h2
      subst this
      rw [Int.min_eq_right hxy, Int.max_eq_left hxy]

def spLongRight : Sp := fun vs H Q _ => ∃ p : Addr, vs = [.ref p] ∧ Spr H p ∧ ∀ H', Go p H H' → Q (.bl true) H'
theorem good_one {x : List Nat} {n : Nat} (h : OkW (x, n)) (hn : n ≤ 100000000000000000000000000) : Good [(x, n)] := by
  obtain ⟨h1, h2, h3, h4⟩ := h
  refine ⟨by show 1 ≤ 40; decide, fun y hy => ?_, ?_⟩
  · have : y = (x, n) := by simpa using hy
    subst this
    exact ⟨⟨h1, h2, h3⟩, h4⟩
  · have : x.length * n ≤ 60 * 100000000000000000000000000 := Nat.mul_le_mul h3 hn
    show x.length * n + 0 ≤ 10 ^ 30
    have h5 : 60 * 100000000000000000000000000 ≤ 10 ^ 30 := by decide
    omega
theorem eqv_nil (L : List Nat) : (!PyData.eqv (dInts (L.map fun j : Nat => (j : Int))) (.list [])) = !L.isEmpty := by
  cases L with
  | nil => rfl
  | cons a L => rfl
theorem one_at {K : PySem.W.Frag} {p t l : Addr} {H : Hp} {x : List Nat} {n : Nat} (ht : t ≠ p) (hl : l ≠ p) (h1 : H t = some (.tup [.str (tx x), .int (n : Int)])) (h2 : H l = some (.lst [.ref t])) (hw : OkW (x, n)) (hn : n ≤ 100000000000000000000000000) :
    At K H (.ref l) (dOf [(x, n)]) ∧ isText (dOf [(x, n)]) = true :=
  ⟨TxtL.at (p := p) ⟨hl, _, h2, .cons ⟨t, rfl, ht, h1⟩ .nil⟩ fun y hy => by
    have : y = (x, n) := by simpa using hy
    subst this
    exact hw.2.2.1, isText_dOf (good_one hw hn)⟩
theorem long_tail {K : PySem.W.Frag} {p tm : Addr} {x y : List Nat} {t0 t1 : Nat} {dv : V} {H0 H : Hp} {s1 s4 s6 s7 s8 s10 s11 s12 : Option V} {D : Ends} (hDx : Go p H0 H) (htm : H tm = some (.tup [V.int (t0 : Int), V.int (t1 : Int)])) (htp : tm ≠ p)
    (hx : OkW (x, t0)) (hy : OkW (y, t1)) (hb0 : t0 ≤ 100000000000000000000000000) (hb1 : t1 ≤ 100000000000000000000000000)
    (hd : (dv = .non ∧ rep x t0 = rep y t1) ∨ ∃ j : Nat, dv = .int (j : Int) ∧ Unlike (rep x t0) (rep y t1) j) (q : ∀ H', Go p H0 H' → D.rt (.bl true) H') :
    tSeq (tPar 10 11 (tCons (tLst (tCons (tTup (tCons (tVar 2) (tCons (tOp (rIx K) (tVar 5) (tC (.int 0))) tNil))) tNil)) (tCons (tLst (tCons (tTup (tCons (tVar 3) (tCons (tOp (rIx K) (tVar 5) (tC (.int 1))) tNil))) tNil)) tNil)))
      (tRet (tAndV (tOp rEq (tCall (spFirstUnlike K) [] E0 (tCons (tVar 10) (tCons (tVar 11) tNil))) (tVar 9)) (tOp rEq (tCall (spFirstUnlike K) [] E0 (tCons (tVar 11) (tCons (tVar 10) tNil))) (tVar 9)))) D
      [some (.ref p), s1, some (.str (tx x)), some (.str (tx y)), s4, some (.ref tm), s6, s7, s8, some dv, s10, s11, s12] H := by
  walk_at "rd"
  refine ⟨_, rfl, _, rfl, ix_row (.inr (SqT.of htm)) (atI_nat (j := 0) rfl) ⟨by show 2 ≤ sizeLine; decide, fun t1a n1 => ⟨by show 1 ≤ sizeLine; decide, fun l1 n2 => ?_⟩⟩⟩
  generalize hA1 : upd H t1a (.tup [V.str (tx x), V.int (t0 : Int)]) = A1 at *
  have a1 : Same H A1 := hA1 ▸ same_upd n1
  have k1 : A1 t1a = some (.tup [V.str (tx x), V.int (t0 : Int)]) := hA1 ▸ upd_same
  generalize hA2 : upd A1 l1 (.lst [V.ref t1a]) = A2 at *
  have a2 : Same A1 A2 := hA2 ▸ same_upd n2
  have k2 : A2 l1 = some (.lst [V.ref t1a]) := hA2 ▸ upd_same
  refine ⟨_, rfl, _, rfl, ix_row (.inr (SqT.of (a2 _ _ (a1 _ _ htm)))) (atI_nat (j := 1) rfl) ⟨by show 2 ≤ sizeLine; decide, fun t2a n3 => ⟨by show 1 ≤ sizeLine; decide, fun l2 n4 => ?_⟩⟩⟩
  generalize hA3 : upd A2 t2a (.tup [V.str (tx y), V.int (t1 : Int)]) = A3 at *
  have a3 : Same A2 A3 := hA3 ▸ same_upd n3
  have k3 : A3 t2a = some (.tup [V.str (tx y), V.int (t1 : Int)]) := hA3 ▸ upd_same
  generalize hA4 : upd A3 l2 (.lst [V.ref t2a]) = A4 at *
  have a4 : Same A3 A4 := hA4 ▸ same_upd n4
  have k4 : A4 l2 = some (.lst [V.ref t2a]) := hA4 ▸ upd_same
  have g1 := hDx.same a1
  have g2 := g1.same a2
  have g3 := g2.same a3
  have g4 := g3.same a4
  obtain ⟨hat1, hit1⟩ := one_at (K := K) (hDx.spr.ne n1) (g1.spr.ne n2) (a4 _ _ (a3 _ _ (a2 _ _ k1))) (a4 _ _ (a3 _ _ k2)) hx hb0
  obtain ⟨hat2, hit2⟩ := one_at (K := K) (g2.spr.ne n3) (g3.spr.ne n4) (a4 _ _ k3) k4 hy hb1
  have e1 : spell (pcs (dOf [(x, t0)])) = rep x t0 := by rw [pcs_dOf, spell_one]
  have e2 : spell (pcs (dOf [(y, t1)])) = rep y t1 := by rw [pcs_dOf, spell_one]
  refine ⟨_, _, rfl, _, rfl, _, rfl, _, _, dOf [(x, t0)], dOf [(y, t1)], rfl, hat1, hat2, hit1, hit2, fun H5 i s5 hu => ?_, fun H5 s5 he => ?_⟩
  · rw [e1, e2] at hu
    rcases hd with ⟨rfl, hd⟩ | ⟨j, rfl, hd⟩
    · exact absurd hd hu.ne
    have hij := hu.uniq hd
    subst hij
    refine ⟨_, rfl, rfl, _, rfl, ?_⟩
    rw [decide_eq_true rfl]
    refine iteT ⟨_, rfl, _, rfl, _, _, dOf [(y, t1)], dOf [(x, t0)], rfl, At.same s5 _ _ hat2, At.same s5 _ _ hat1, hit2, hit1, fun H6 i2 s6 hu2 => ?_, fun H6 s6 he => ?_⟩
    · rw [e1, e2] at hu2
      have hij := hu.symm.uniq hu2
      subst hij
      refine ⟨_, rfl, rfl, ?_⟩
      rw [decide_eq_true rfl]
      exact q _ ((g4.same s5).same s6)
    · rw [e1, e2] at he
      exact absurd he.symm hu.ne
  · rw [e1, e2] at he
    rcases hd with ⟨rfl, hd⟩ | ⟨j, rfl, hd⟩
    · refine ⟨_, rfl, rfl, _, rfl, ?_⟩
      rw [decide_eq_true rfl]
      refine iteT ⟨_, rfl, _, rfl, _, _, dOf [(y, t1)], dOf [(x, t0)], rfl, At.same s5 _ _ hat2, At.same s5 _ _ hat1, hit2, hit1, fun H6 i2 s6 hu2 => ?_, fun H6 s6 he => ?_⟩
      · rw [e1, e2] at hu2
        exact absurd he.symm hu2.ne
      · refine ⟨_, rfl, rfl, ?_⟩
        rw [decide_eq_true rfl]
        exact q _ ((g4.same s5).same s6)
    · exact absurd he hd.ne
theorem ok__law_long_right (T : Txt K mg) : FnOk P w K mg base CX0 8 T.f__law_long_right.f T.f__law_long_right.fd ["spring"] spLongRight := by
  refine T.f__law_long_right.F.ok sc__law_long_right (fun vs H Q E h => ?_) (fun cdv A outer s H vs Q E hr h => ?_)
  · obtain ⟨p, rfl, _⟩ := h
    rfl
  obtain ⟨p, rfl, hp, q⟩ := h
  refine ⟨_, (pss_cons (ps_set (i := 1) sc__law_long_right.nd rfl (.inl rfl) (pe_op op_mul_str (pe_call (ok__law_word T) (hr.mono (by decide)) (by rfl) T.f__law_word.g T.f__law_word.F.kp T.f__law_word.b .nil pass0 (pa_cons (pv 0) (pa_cons pe_int pa_nil))) pe_int))
      (pss_cons (ps_asg (pe_tup (pa_cons (pe_slice sl_str (pv 1) po_none (po_some (pe_op op_add pe_int (pe_call (ok__law_draw T) (hr.mono (by decide)) (by rfl) T.f__law_draw.g T.f__law_draw.F.kp T.f__law_draw.b .nil pass0 (pa_cons (pv 0) (pa_cons pe_int pa_nil)))))) (pa_cons (pe_slice sl_str (pv 1) po_none (po_some (pe_op op_add pe_int (pe_call (ok__law_draw T) (hr.mono (by decide)) (by rfl) T.f__law_draw.g T.f__law_draw.F.kp T.f__law_draw.b .nil pass0 (pa_cons (pv 0) (pa_cons pe_int pa_nil)))))) pa_nil))) (pg_tup rfl (pgs_cons (pg_name (i := 2) sc__law_long_right.nd rfl (.inr rfl)) (pgs_cons (pg_name (i := 3) sc__law_long_right.nd rfl (.inr rfl)) pgs_nil))))
      (pss_cons (ps_set (i := 4) sc__law_long_right.nd rfl (.inl rfl) (pe_op op_add pe_int (pe_call (ok__law_draw T) (hr.mono (by decide)) (by rfl) T.f__law_draw.g T.f__law_draw.F.kp T.f__law_draw.b .nil pass0 (pa_cons (pv 0) (pa_cons (pe_op op_pow pe_int pe_int) pa_nil)))))
      (pss_cons (ps_set (i := 5) sc__law_long_right.nd rfl (.inl rfl) (pe_ix ix_seq (pe_lst (pa_cons (pe_tup (pa_cons (pv 4) (pa_cons (pv 4) pa_nil))) (pa_cons (pe_tup (pa_cons (pe_op op_mul (pv 4) (pe_callB (call_lenK K) (by rfl) T.b_len (by decide +kernel) (pa_cons (pv 3) pa_nil))) (pa_cons (pe_op op_mul (pv 4) (pe_callB (call_lenK K) (by rfl) T.b_len (by decide +kernel) (pa_cons (pv 2) pa_nil))) pa_nil))) pa_nil))) (pe_call (ok__law_draw T) (hr.mono (by decide)) (by rfl) T.f__law_draw.g T.f__law_draw.F.kp T.f__law_draw.b .nil pass0 (pa_cons (pv 0) (pa_cons pe_int pa_nil))) (fun _ _ => rfl)))
      (pss_cons (ps_set (i := 6) sc__law_long_right.nd rfl (.inl rfl) (pe_op op_add (pe_callB (call_lenK K) (by rfl) T.b_len (by decide +kernel) (pa_cons (pv 2) pa_nil)) (pe_callB (call_lenK K) (by rfl) T.b_len (by decide +kernel) (pa_cons (pv 3) pa_nil))))
      (pss_cons (ps_setLc (i := 7) (own := [("at", 12)]) rfl sc__law_long_right.nd rfl rfl (sw_true rfl rfl rfl (by decide +kernel)) (pi_range1 (by rfl) T.b_range (pa_cons (pv 6) pa_nil)) (blkOk_by (own := [("at", 12)]) (N := N__law_long_right) (sc := defScope s__law_long_right) (by decide +kernel)) (fun _ _ _ _ _ => (pg_name (i := 12) sc__law_long_right.nd rfl (.inl rfl))) (fun _ _ _ _ _ => (pts_one (pt_cmpR op_ne (pe_ix (ix_seqK K) (pv 2) (pe_op op_mod (pv 12) (pe_callB (call_lenK K) (by rfl) T.b_len (by decide +kernel) (pa_cons (pv 2) pa_nil))) (fun _ _ => rfl)) (pe_ix (ix_seqK K) (pv 3) (pe_op op_mod (pv 12) (pe_callB (call_lenK K) (by rfl) T.b_len (by decide +kernel) (pa_cons (pv 3) pa_nil))) (fun _ _ => rfl)) (nomark _)))) (fun _ _ _ _ _ => (pv 12)))
      (pss_cons (ps_set (i := 8) sc__law_long_right.nd rfl (.inl rfl) (pe_callB cr_sorted (by rfl) T.b_sorted (by decide +kernel) (pa_cons (pe_lst (pa_cons (pe_op op_mul (pe_callB (call_lenK K) (by rfl) T.b_len (by decide +kernel) (pa_cons (pv 2) pa_nil)) (pe_ix ix_seq (pv 5) pe_int (fun _ _ => rfl))) (pa_cons (pe_op op_mul (pe_callB (call_lenK K) (by rfl) T.b_len (by decide +kernel) (pa_cons (pv 3) pa_nil)) (pe_ix ix_seq (pv 5) pe_int (fun _ _ => rfl))) pa_nil))) pa_nil)))
      (pss_cons (ps_set (i := 9) sc__law_long_right.nd rfl (.inl rfl) (pe_ifExp (pt_cmpR (op_neD hr.units) (pv 7) (pe_lst pa_nil) (nomark _)) (pe_ix ix_seq (pv 7) pe_int (fun _ _ => rfl)) (pe_ifExp (pt_cmpR op_eq (pe_ix ix_seq (pv 8) pe_int (fun _ _ => rfl)) (pe_ix ix_seq (pv 8) pe_int (fun _ _ => rfl)) (nomark _)) pe_non (pe_ix ix_seq (pv 8) pe_int (fun _ _ => rfl)))))
      (pss_cons (ps_if (PW.pt (pw_and (pt_cmpR (op_neD hr.units) (pv 7) (pe_lst pa_nil) (nomark _)) (pw_and1 (pt_cmpR op_ge (pe_ix ix_seq (pv 7) pe_int (fun _ _ => rfl)) (pe_ix ix_seq (pv 8) pe_int (fun _ _ => rfl)) (nomark _))))) (pss_one (ps_set (i := 9) sc__law_long_right.nd rfl (.inl rfl) (pe_ix ix_seq (pv 8) pe_int (fun _ _ => rfl)))) pss_nil)
      (pss_cons (ps_par (i := 10) (j := 11) (by rfl) sc__law_long_right.nd rfl rfl (by decide) rfl rfl (pa_cons (pe_lst (pa_cons (pe_tup (pa_cons (pv 2) (pa_cons (pe_ix ix_seq (pv 5) pe_int (fun _ _ => rfl)) pa_nil))) pa_nil)) (pa_cons (pe_lst (pa_cons (pe_tup (pa_cons (pv 3) (pa_cons (pe_ix ix_seq (pv 5) pe_int (fun _ _ => rfl)) pa_nil))) pa_nil)) pa_nil)) (by rfl))
      (pss_one (ps_ret (pe_and (pe_cmpR op_eq (pe_call (ok_first_unlike T) (hr.mono (by decide)) (by rfl) T.f_first_unlike.g T.f_first_unlike.F.kp T.f_first_unlike.b .nil pass0 (pa_cons (pv 10) (pa_cons (pv 11) pa_nil))) (pv 9) (nomark _)) (pe_one (pe_cmpR op_eq (pe_call (ok_first_unlike T) (hr.mono (by decide)) (by rfl) T.f_first_unlike.g T.f_first_unlike.F.kp T.f_first_unlike.b .nil pass0 (pa_cons (pv 11) (pa_cons (pv 10) pa_nil))) (pv 9) (nomark _)))))))))))))))), ?_⟩
  walk_at "rd"
  refine ⟨_, rfl, p, 30, rfl, hp, by decide, by decide, fun H1 u g1 hu hul hup => ?_⟩
  have hul30 : u.length ≤ 30 := by omega
  have hupos : 0 < u.length := List.length_pos_iff.mpr hu
  have hgl : (rep u 60).length = 60 * u.length := rep_len u 60
  refine ⟨tx u, 60, rfl, rfl, mul_ok (n := 60) 30 60 hul30 (by decide) (by decide) (by decide), ?_⟩
  rw [show Txt.mul (tx u) 60 = tx (rep u 60) from mul_tx u 60]
  have hgp : Plain (rep u 60) := List.all_eq_true.mpr fun c hc => List.all_eq_true.mp hup c (rep_mem hc)
  generalize hg : rep u 60 = g at *
  have hgz : (tx g).length ≤ sizeLine := by rw [tx_len]; exact Nat.le_trans (show g.length ≤ 1800 by omega) (by decide)
  refine ⟨_, rfl, _, rfl, p, 60, rfl, g1.spr, by decide, by decide, fun H2 c g2 c0 cl => ⟨_, _, rfl, rfl, _, rfl, tx g, rfl, hgz, ?_⟩⟩
  obtain ⟨c, rfl⟩ := Int.eq_ofNat_of_zero_le c0
  rw [show (1 : Int) + (c : Int) = ((1 + c : Nat) : Int) by omega, cut__n]
  refine ⟨_, rfl, _, rfl, p, 30, rfl, g2.spr, by decide, by decide, fun H3 d g3 d0 dl => ⟨_, _, rfl, rfl, _, rfl, tx g, rfl, hgz, ?_⟩⟩
  obtain ⟨d, rfl⟩ := Int.eq_ofNat_of_zero_le d0
  rw [show (31 : Int) + (d : Int) = ((31 + d : Nat) : Int) by omega, cut__n]
  have hxl : (g.take (1 + c)).length = 1 + c := by rw [List.length_take]; omega
  have hyl : (g.take (31 + d)).length = 31 + d := by rw [List.length_take]; omega
  have hxg : g.take (1 + c) = g.take (g.take (1 + c)).length := by rw [hxl]
  have hyg : g.take (31 + d) = g.take (g.take (31 + d)).length := by rw [hyl]
  have hxp := plain_take hgp (1 + c)
  have hyp := plain_take hgp (31 + d)
  generalize hx : g.take (1 + c) = x at *
  generalize hy : g.take (31 + d) = y at *
  have hxne : x ≠ [] := fun z => by
    rw [z] at hxl
    have : 0 = 1 + c := hxl
    omega
  have hyne : y ≠ [] := fun z => by
    rw [z] at hyl
    have : 0 = 31 + d := hyl
    omega
  have hx60 : x.length ≤ 60 := by omega
  have hy60 : y.length ≤ 60 := by omega
  have hxpos : 0 < x.length := by omega
  have hypos : 0 < y.length := by omega
  have g13 := (g1.trans g2).trans g3
  refine ⟨by show 2 ≤ sizeLine; decide, fun tt ntt => ?_⟩
  generalize hA0 : upd H3 tt (.tup [V.str (tx x), V.str (tx y)]) = A0 at *
  have s0 : Same H3 A0 := hA0 ▸ same_upd ntt
  have k0 : A0 tt = some (.tup [V.str (tx x), V.str (tx y)]) := hA0 ▸ upd_same
  have gA0 := g13.same s0
  refine ⟨tt, _, rfl, SqT.of k0, rfl, _, _, rfl, _, _, rfl, rfl, ?_⟩
  -- how often
  refine ⟨_, rfl, _, _, rfl, rfl, ⟨by decide, by decide, by decide⟩, p, _, rfl, gA0.spr, by decide +kernel, by decide +kernel, fun H4 e g4 e0 el => ⟨_, _, rfl, rfl, ?_⟩⟩
  obtain ⟨e, rfl⟩ := Int.eq_ofNat_of_zero_le e0
  have el2 : e < 1000000000000000000000000 := by
    have : (10 : Int) ^ (Int.toNat 24) = ((1000000000000000000000000 : Nat) : Int) := by decide +kernel
    have el3 : (e : Int) < (10 : Int) ^ (Int.toNat 24) := el
    rw [this] at el3
    omega
  have gA1 := gA0.trans g4
  walk_at "rd"
  rw [show (5 : Int) + (e : Int) = ((5 + e : Nat) : Int) by omega]
  generalize ho : 5 + e = k at *
  refine ⟨_, rfl, _, rfl, by show 2 ≤ sizeLine; decide, fun t1 n1 => ?_⟩
  generalize hA2 : upd H4 t1 (.tup [V.int (k : Int), V.int (k : Int)]) = A2 at *
  have s2 : Same H4 A2 := hA2 ▸ same_upd n1
  have k2 : A2 t1 = some (.tup [V.int (k : Int), V.int (k : Int)]) := hA2 ▸ upd_same
  refine ⟨_, rfl, _, rfl, len_tx (by omega) ⟨_, _, rfl, rfl, .inr ⟨by omega, by omega⟩, _, rfl, _, rfl, len_tx (by omega) ⟨_, _, rfl, rfl, .inr ⟨by omega, by omega⟩, ?_⟩⟩⟩
  walk_at "rd"
  rw [show (k : Int) * (y.length : Int) = ((k * y.length : Nat) : Int) from (Int.natCast_mul _ _).symm, show (k : Int) * (x.length : Int) = ((k * x.length : Nat) : Int) from (Int.natCast_mul _ _).symm]
  refine ⟨by show 2 ≤ sizeLine; decide, fun t2 n2 => ?_⟩
  generalize hA3 : upd A2 t2 (.tup [V.int ((k * y.length : Nat) : Int), V.int ((k * x.length : Nat) : Int)]) = A3 at *
  have s3 : Same A2 A3 := hA3 ▸ same_upd n2
  have k3 : A3 t2 = some (.tup [V.int ((k * y.length : Nat) : Int), V.int ((k * x.length : Nat) : Int)]) := hA3 ▸ upd_same
  refine ⟨by show 2 ≤ sizeLine; decide, fun l1 n3 => ?_⟩
  generalize hA4 : upd A3 l1 (.lst [V.ref t1, V.ref t2]) = A4 at *
  have s4 : Same A3 A4 := hA4 ▸ same_upd n3
  have k4 : A4 l1 = some (.lst [V.ref t1, V.ref t2]) := hA4 ▸ upd_same
  have gA2 := gA1.same s2
  have gA3 := gA2.same s3
  have gA4 := gA3.same s4
  refine ⟨_, rfl, p, 2, rfl, gA4.spr, by decide, by decide, fun H5 r g5 r0 rl => ?_⟩
  have gA5 := gA4.trans g5
  obtain ⟨tm, t0, t1', ht, htm, htA, hval, hbnd⟩ : ∃ (tm : Addr) (a b : Nat), atI [V.ref t1, V.ref t2] r = some (.ref tm) ∧ H5 tm = some (.tup [V.int (a : Int), V.int (b : Int)]) ∧ tm ≠ p ∧ ((∃ k, 5 ≤ k ∧ a = k ∧ b = k) ∨ ∃ k, 5 ≤ k ∧ a = k * y.length ∧ b = k * x.length) ∧ (1 ≤ a ∧ a ≤ 100000000000000000000000000) ∧ (1 ≤ b ∧ b ≤ 100000000000000000000000000) := by
    have hb1 : k * y.length ≤ 1000000000000000000000005 * 60 := Nat.mul_le_mul (by omega) hy60
    have hb2 : k * x.length ≤ 1000000000000000000000005 * 60 := Nat.mul_le_mul (by omega) hx60
    have hb3 : 1 ≤ k * y.length := Nat.mul_pos (by omega) hypos
    have hb4 : 1 ≤ k * x.length := Nat.mul_pos (by omega) hxpos
    have : r = 0 ∨ r = 1 := by omega
    rcases this with rfl | rfl
    · have hne := gA1.spr.ne n1
      exact ⟨t1, k, k, rfl, g5.keep _ _ hne (s4 _ _ (s3 _ _ k2)), hne, .inl ⟨k, by omega, rfl, rfl⟩, by omega, by omega⟩
    · have hne := gA2.spr.ne n2
      exact ⟨t2, k * y.length, k * x.length, rfl, g5.keep _ _ hne (s4 _ _ k3), hne, .inr ⟨k, by omega, rfl, rfl⟩, by omega, by omega⟩
  refine ix_lst (g5.keep _ _ (gA3.spr.ne n3) k4) ht ?_
  -- both; the odd places
  refine ⟨_, rfl, len_tx (by omega) ⟨_, rfl, len_tx (by omega) ⟨_, _, rfl, rfl, ?_⟩⟩⟩
  walk_at "rd"
  rw [show (x.length : Int) + (y.length : Int) = ((x.length + y.length : Nat) : Int) from (Int.natCast_add _ _).symm]
  refine lc_rng1 ?_
  walk_at "rd"
  refine ⟨_, rfl, _, rfl, by omega, by omega, fun D nD => ?_⟩
  have hDp := gA5.spr.ne nD
  rw [Int.toNat_natCast]
  refine LcGo.range (fun i H6 => Same H5 H6 ∧ H6 D = some (.lst (((oddTo x y i).map fun j : Nat => (j : Int)).map V.int))) ⟨same_upd nD, upd_same⟩ ?_ ?_
  · rintro i H6 hi ⟨s6, hD⟩
    have hix := Nat.mod_lt i hxpos
    have hiy := Nat.mod_lt i hypos
    have gx : x[i % x.length]? = some x[i % x.length] := List.getElem?_eq_getElem hix
    have gy : y[i % y.length]? = some y[i % y.length] := List.getElem?_eq_getElem hiy
    have ex : (0 + (i : Int)) % (x.length : Int) = ((i % x.length : Nat) : Int) := by rw [Int.zero_add, Int.natCast_emod]
    have ey : (0 + (i : Int)) % (y.length : Int) = ((i % y.length : Nat) : Int) := by rw [Int.zero_add, Int.natCast_emod]
    have ax : atI x ((0 + (i : Int)) % (x.length : Int)) = some x[i % x.length] := at_ofA (j := i % x.length) ex gx
    have ay : atI y ((0 + (i : Int)) % (y.length : Int)) = some y[i % y.length] := at_ofA (j := i % y.length) ey gy
    walk_at "rd"
    refine ⟨rfl, _, rfl, _, rfl, _, rfl, len_tx (by omega) ⟨_, _, rfl, rfl, (show (0 : Int) < (x.length : Int) by omega), ix_tx (show x.length ≤ 1000000 by omega) ax ⟨_, rfl, _, rfl, _, rfl, len_tx (by omega) ⟨_, _, rfl, rfl, (show (0 : Int) < (y.length : Int) by omega), ix_tx (show y.length ≤ 1000000 by omega) ay ⟨rfl, _, rfl, ?_⟩⟩⟩⟩⟩
    have hz : (oddTo x y i).length ≤ 120 := by
      unfold oddTo
      refine Nat.le_trans (List.length_filter_le _ _) ?_
      rw [List.length_range]
      omega
    by_cases eq : x[i % x.length] = y[i % y.length]
    · rw [eq, show (!decide (V.str (tx [y[i % y.length]]) = V.str (tx [y[i % y.length]]))) = false by rw [decide_eq_true rfl]; rfl]
      refine iteF ⟨s6, ?_⟩
      rw [hD, oddTo_succ, gx, gy, eq]
      simp
    · rw [show (!decide (V.str (tx [x[i % x.length]]) = V.str (tx [y[i % y.length]]))) = true by rw [decide_eq_false (fun z => eq (by have := tx_inj (V.str.inj z); simpa using this))]; rfl]
      refine iteT ⟨_, rfl, _, hD, ?_, same_mut s6 nD, ?_⟩
      · rw [List.length_map, List.length_map]
        exact Nat.lt_of_le_of_lt hz (by decide)
      · rw [upd_same, oddTo_succ, gx, gy, if_pos (by simpa using eq), List.map_append, List.map_append]
        show some (HO.lst (_ ++ [V.int (0 + (i : Int))])) = some (HO.lst (_ ++ [V.int (i : Int)]))
        rw [Int.zero_add]
  rintro H6 ⟨s6, hD⟩
  walk_at "rd"
  have htm6 := s6 _ _ htm
  have gA6 := gA5.same s6
  -- the sizes
  refine ⟨_, rfl, len_tx (by omega) ⟨_, rfl, ix_row (.inr (SqT.of htm6)) (atI_nat (j := 0) rfl) ⟨_, _, rfl, rfl, .inl ⟨by omega, by omega⟩, _, rfl, len_tx (by omega) ⟨_, rfl, ix_row (.inr (SqT.of htm6)) (atI_nat (j := 1) rfl) ⟨_, _, rfl, rfl, .inl ⟨by omega, by omega⟩, ?_⟩⟩⟩⟩⟩
  walk_at "rd"
  rw [show (x.length : Int) * (t0 : Int) = ((x.length * t0 : Nat) : Int) from (Int.natCast_mul _ _).symm, show (y.length : Int) * (t1' : Int) = ((y.length * t1' : Nat) : Int) from (Int.natCast_mul _ _).symm]
  refine ⟨by show 2 ≤ sizeLine; decide, fun l2 n4 => ?_⟩
  generalize hA7 : upd H6 l2 (.lst [V.int ((x.length * t0 : Nat) : Int), V.int ((y.length * t1' : Nat) : Int)]) = A7 at *
  have s7 : Same H6 A7 := hA7 ▸ same_upd n4
  have k7 : A7 l2 = some (.lst [V.int ((x.length * t0 : Nat) : Int), V.int ((y.length * t1' : Nat) : Int)]) := hA7 ▸ upd_same
  refine ⟨l2, [((x.length * t0 : Nat) : Int), ((y.length * t1' : Nat) : Int)], rfl, SqL.of k7, by show 2 < 64; decide, fun ns sl perm rising nsl => ?_⟩
  rw [two_sorted perm rising] at *
  have emin : min ((x.length * t0 : Nat) : Int) ((y.length * t1' : Nat) : Int) = ((min (x.length * t0) (y.length * t1') : Nat) : Int) := by omega
  have emax : max ((x.length * t0 : Nat) : Int) ((y.length * t1' : Nat) : Int) = ((max (x.length * t0) (y.length * t1') : Nat) : Int) := by omega
  rw [emin, emax]
  have hdue := long_due hxne hyne hx60 hy60 hxg hyg hval
  generalize hm0 : min (x.length * t0) (y.length * t1') = m0 at *
  generalize hm1 : max (x.length * t0) (y.length * t1') = m1 at *
  generalize hL : oddTo x y (x.length + y.length) = L at *
  generalize hA8 : upd A7 sl (.lst ([(m0 : Int), (m1 : Int)].map V.int)) = A8 at *
  have s8 : Same A7 A8 := hA8 ▸ same_upd nsl
  have k8 : A8 sl = some (.lst [V.int (m0 : Int), V.int (m1 : Int)]) := hA8 ▸ upd_same
  have hD8 := s8 _ _ (s7 _ _ hD)
  have gA8 := (gA6.same s7).same s8
  have htm8 := s8 _ _ (s7 _ _ htm6)
  -- due
  refine ⟨_, rfl, Nat.zero_le _, fun e1 n5 => ?_⟩
  generalize hA9 : upd A8 e1 (.lst []) = A9 at *
  have s9 : Same A8 A9 := hA9 ▸ same_upd n5
  have k9 : A9 e1 = some (.lst []) := hA9 ▸ upd_same
  have hne := eqv_nil L
  refine ⟨dInts (L.map fun j : Nat => (j : Int)), .list [], .lst (SqL.of (s9 _ _ hD8)) (dpAll_ints _), .lst (SqL.of k9) .nil, shaped_ints _, rfl, _, rfl, ?_⟩
  rw [hne]
  have gA9 := gA8.same s9
  cases L with
  | nil =>
    refine iteF ⟨_, rfl, ix_lst (s9 _ _ k8) (at_of (j := 0) rfl rfl) ⟨_, rfl, ix_lst (s9 _ _ k8) (at_of (j := 1) rfl rfl) ⟨rfl, _, rfl, ite2 (fun e2 => ?_) (fun e2 => ?_)⟩⟩⟩
    · have e3 : m0 = m1 := by have := V.int.inj (of_decide_eq_true e2); omega
      refine ⟨_, rfl, Nat.zero_le _, fun e4 n6 => ?_⟩
      refine ⟨dInts [], .list [], .lst (SqL.of (same_upd n6 _ _ (s9 _ _ hD8))) .nil, .lst (SqL.of upd_same) .nil, rfl, rfl, _, rfl, iteF (iteF ?_)⟩
      refine long_tail (K := K) (dv := V.non) (D := { nx := fun _ H' => Q .non H', rt := Q }) (hDx := go_new gA9 n6) (same_upd n6 _ _ (s9 _ _ htm8)) htA ⟨hxp, hxne, hx60, hbnd.1.1⟩ ⟨hyp, hyne, hy60, hbnd.2.1⟩ hbnd.1.2 hbnd.2.2 ?_ ?_
      rw [show dueV [] m0 m1 = V.non from if_pos e3] at hdue
      exact hdue
      exact fun H' g => q H' g
    · have e3 : m0 ≠ m1 := fun z => e2 (decide_eq_true (by rw [z]))
      refine ⟨_, rfl, ix_lst (s9 _ _ k8) (at_of (j := 0) rfl rfl) ⟨_, rfl, Nat.zero_le _, fun e4 n6 => ?_⟩⟩
      refine ⟨dInts [], .list [], .lst (SqL.of (same_upd n6 _ _ (s9 _ _ hD8))) .nil, .lst (SqL.of upd_same) .nil, rfl, rfl, _, rfl, iteF (iteF ?_)⟩
      refine long_tail (K := K) (dv := V.int (m0 : Int)) (D := { nx := fun _ H' => Q .non H', rt := Q }) (hDx := go_new gA9 n6) (same_upd n6 _ _ (s9 _ _ htm8)) htA ⟨hxp, hxne, hx60, hbnd.1.1⟩ ⟨hyp, hyne, hy60, hbnd.2.1⟩ hbnd.1.2 hbnd.2.2 ?_ ?_
      rw [show dueV [] m0 m1 = V.int (m0 : Int) from if_neg e3] at hdue
      exact hdue
      exact fun H' g => q H' g
  | cons a0 L =>
    refine iteT ⟨_, rfl, ix_lst (s9 _ _ hD8) (at_of (j := 0) rfl rfl) ⟨_, rfl, Nat.zero_le _, fun e4 n6 => ?_⟩⟩
    refine ⟨dInts ((a0 :: L).map fun j : Nat => (j : Int)), .list [], .lst (SqL.of (same_upd n6 _ _ (s9 _ _ hD8))) (dpAll_ints _), .lst (SqL.of upd_same) .nil, shaped_ints _, rfl, _, rfl, ?_⟩
    rw [eqv_nil (a0 :: L)]
    refine iteT ⟨_, rfl, ix_lst (same_upd n6 _ _ (s9 _ _ hD8)) (at_of (j := 0) rfl rfl) ⟨_, rfl, ix_lst (same_upd n6 _ _ (s9 _ _ k8)) (at_of (j := 0) rfl rfl) ⟨_, _, rfl, rfl, _, rfl, ite2 (fun e2 => ?_) (fun e2 => ?_)⟩⟩⟩
    · have e3 : m0 ≤ a0 := by
        have h2 : (m0 : Int) ≤ (a0 : Int) := of_decide_eq_true e2
        omega
      refine ⟨_, rfl, ix_lst (same_upd n6 _ _ (s9 _ _ k8)) (at_of (j := 0) rfl rfl) ?_⟩
      refine long_tail (K := K) (dv := V.int (m0 : Int)) (D := { nx := fun _ H' => Q .non H', rt := Q }) (hDx := go_new gA9 n6) (same_upd n6 _ _ (s9 _ _ htm8)) htA ⟨hxp, hxne, hx60, hbnd.1.1⟩ ⟨hyp, hyne, hy60, hbnd.2.1⟩ hbnd.1.2 hbnd.2.2 ?_ ?_
      rw [show dueV (a0 :: L) m0 m1 = V.int (m0 : Int) from if_pos e3] at hdue
      exact hdue
      exact fun H' g => q H' g
    · have e3 : ¬ m0 ≤ a0 := fun z => e2 (decide_eq_true (show (m0 : Int) ≤ (a0 : Int) by omega))
      refine long_tail (K := K) (dv := V.int (a0 : Int)) (D := { nx := fun _ H' => Q .non H', rt := Q }) (hDx := go_new gA9 n6) (same_upd n6 _ _ (s9 _ _ htm8)) htA ⟨hxp, hxne, hx60, hbnd.1.1⟩ ⟨hyp, hyne, hy60, hbnd.2.1⟩ hbnd.1.2 hbnd.2.2 ?_ ?_
      rw [show dueV (a0 :: L) m0 m1 = V.int (a0 : Int) from if_neg e3] at hdue
      exact hdue
      exact fun H' g => q H' g

/-! ## where one text ends first -/
theorem unlike_prefix {A B : List Nat} (h : B.length < A.length) (e : A.take B.length = B) : Unlike A B B.length := by
  refine ⟨by rw [e, List.take_length], fun z => ?_⟩
  rw [List.getElem?_eq_none (l := B) (Nat.le_refl _), List.getElem?_eq_getElem h] at z
  cases z
theorem cutM1 (xs : List V) : cutV xs none (some (-1)) = xs.dropLast := by
  unfold cutV
  have e1 : HT.sIx xs.length 0 none = 0 := rfl
  have e2 : HT.sIx xs.length xs.length (some (-1)) = xs.length - 1 := by
    show (if (-1 : Int) < 0 then ((-1 : Int) + (xs.length : Int)).toNat else min (-1 : Int).toNat xs.length) = _
    rw [if_pos (by decide)]
    omega
  rw [e1, e2, List.drop_zero, Nat.sub_zero, List.dropLast_eq_take]
theorem prd_init {α β : Type} {R : α → β → Prop} {xs : List α} {ys : List β} (h : Paired R xs ys) : Paired R xs.dropLast ys.dropLast := by
  have key : ∀ {xs : List α} {ys : List β}, Paired R xs ys → ∀ n, Paired R (xs.take n) (ys.take n) := by
    intro xs ys h
    induction h with
    | nil => intro n; rw [List.take_nil, List.take_nil]; exact .nil
    | cons a t ih =>
      intro n
      cases n with
      | zero => exact .nil
      | succ n => exact .cons a (ih n)
  rw [List.dropLast_eq_take, List.dropLast_eq_take, prd_len h]
  exact key h _
def spEndsRight (K : PySem.W.Frag) : Sp := fun vs H Q _ => ∃ (p a : Addr) (ps : Pcs), vs = [.ref p, .ref a] ∧ Spr H p ∧ TxtL p H a ps ∧ (∀ y ∈ ps, OkW y) ∧ ps ≠ [] ∧ ps.length ≤ 38 ∧ size ps ≤ 100000000000000000000000000000 ∧ ∀ H', Go p H H' → Q (.bl true) H'
theorem good_w2 {ps : Pcs} (h : ∀ y ∈ ps, OkW y) (hl : ps.length ≤ 40) (hs : size ps ≤ 10 ^ 30) : Good ps := ⟨hl, fun y hy => ⟨⟨(h y hy).1, (h y hy).2.1, (h y hy).2.2.1⟩, (h y hy).2.2.2⟩, hs⟩
theorem spell_ne {ps : Pcs} (h : ∀ y ∈ ps, OkW y) (hne : ps ≠ []) : 0 < size ps := by
  cases ps with
  | nil => exact absurd rfl hne
  | cons y ps =>
    obtain ⟨_, h2, _, h4⟩ := h y (List.mem_cons_self ..)
    have := Nat.mul_pos (List.length_pos_iff.mpr h2) h4
    rw [size_cons]
    omega
theorem ok__law_ends_right (T : Txt K mg) : FnOk P w K mg base CX0 8 T.f__law_ends_right.f T.f__law_ends_right.fd ["spring", "text"] (spEndsRight K) := by
  refine T.f__law_ends_right.F.ok sc__law_ends_right (fun vs H Q E h => ?_) (fun cdv A outer s H vs Q E hr h => ?_)
  · obtain ⟨p, a, ps, rfl, _⟩ := h
    rfl
  obtain ⟨p, a, ps, rfl, hp, htx, hok, hne, hfew, hsz, q⟩ := h
  obtain ⟨hap, xs, ha, hps⟩ := id htx
  have hxl := prd_len hps
  have hpl : 0 < ps.length := List.length_pos_iff.mpr hne
  -- the last piece
  have hlast : ps[ps.length - 1]? = some (ps.getLast hne) := by
    rw [← List.getLast?_eq_getElem?, List.getLast?_eq_getLast hne]
  obtain ⟨v0, hv0⟩ : ∃ v0, xs[ps.length - 1]? = some v0 := ⟨xs[ps.length - 1], List.getElem?_eq_getElem (by omega)⟩
  obtain ⟨y, hy, b, rfl, hbp, hb⟩ := prd_at hps hv0
  have hyy : ps.dropLast ++ [y] = ps := by
    rw [hlast] at hy
    have : ps.getLast hne = y := Option.some.inj hy
    rw [← this]
    exact List.dropLast_concat_getLast hne
  have hxlast : xs.dropLast ++ [V.ref b] = xs := by
    have hxne : xs ≠ [] := fun z => by rw [z] at hxl; simp at hxl; omega
    have h1 : xs.getLast hxne = V.ref b := by
      have := List.getLast?_eq_getLast hxne
      rw [List.getLast?_eq_getElem?, hxl, hv0] at this
      exact (Option.some.inj this).symm
    rw [← h1]
    exact List.dropLast_concat_getLast hxne
  obtain ⟨gy1, gy2, gy3, gy4⟩ := hok y (List.mem_of_getElem? hy)
  have hypos : 0 < y.1.length := List.length_pos_iff.mpr gy2
  have hsize : size ps = size ps.dropLast + y.1.length * y.2 := by
    conv => lhs; rw [← hyy]
    unfold size
    rw [List.map_append, List.sum_append]
    simp
  have hspell : spell ps = spell ps.dropLast ++ rep y.1 y.2 := by
    conv => lhs; rw [← hyy]
    rw [spell_app, spell_one]
  have hdl : ps.dropLast.length = ps.length - 1 := List.length_dropLast
  have hokd : ∀ z ∈ ps.dropLast, OkW z := fun z hz => hok z (by rw [← hyy]; exact List.mem_append_left _ hz)
  refine ⟨_, (pss_cons (ps_asg (pe_ix ix_seq (pv 1) (pe_un un_neg pe_int) (fun _ _ => rfl)) (pg_tup rfl (pgs_cons (pg_name (i := 2) sc__law_ends_right.nd rfl (.inl rfl)) (pgs_cons (pg_name (i := 3) sc__law_ends_right.nd rfl (.inl rfl)) pgs_nil))))
      (pss_cons (ps_set (i := 4) sc__law_ends_right.nd rfl (.inl rfl) (pe_lst (pa_cons (pe_slice sl_list (pv 1) po_none (po_some (pe_un un_neg pe_int))) (pa_cons (pe_op op_cat (pe_slice sl_list (pv 1) po_none (po_some (pe_un un_neg pe_int))) (pe_op op_rep (pe_lst (pa_cons (pe_tup (pa_cons (pv 2) (pa_cons (pe_op op_sub (pv 3) pe_int) pa_nil))) pa_nil)) (pe_callTy call_int1 (by rfl) T.b_int (by decide +kernel) (pa_cons (pe_cmpR op_gt (pv 3) pe_int (nomark _)) pa_nil)))) (pa_cons (pe_op op_cat (pv 1) (pe_lst (pa_cons (pe_tup (pa_cons pe_str (pa_cons pe_int pa_nil))) pa_nil))) pa_nil)))))
      (pss_cons (ps_set (i := 5) sc__law_ends_right.nd rfl (.inl rfl) (pe_ix ix_seq (pv 4) (pe_call (ok__law_draw T) (hr.mono (by decide)) (by rfl) T.f__law_draw.g T.f__law_draw.F.kp T.f__law_draw.b .nil pass0 (pa_cons (pv 0) (pa_cons pe_int pa_nil))) (fun _ _ => rfl)))
      (pss_cons (ps_set (i := 6) sc__law_ends_right.nd rfl (.inl rfl) (pe_callB (call_min2 rfl) (by rfl) T.b_min (by decide +kernel) (pa_cons (pe_call (ok_length T) (hr.mono (by decide)) (by rfl) T.f_length.g T.f_length.F.kp T.f_length.b .nil pass0 (pa_cons (pv 1) pa_nil)) (pa_cons (pe_call (ok_length T) (hr.mono (by decide)) (by rfl) T.f_length.g T.f_length.F.kp T.f_length.b .nil pass0 (pa_cons (pv 5) pa_nil)) pa_nil))))
      (pss_one (ps_ret (pe_and (pe_cmpR op_eq (pe_call (ok_first_unlike T) (hr.mono (by decide)) (by rfl) T.f_first_unlike.g T.f_first_unlike.F.kp T.f_first_unlike.b .nil pass0 (pa_cons (pv 1) (pa_cons (pv 5) pa_nil))) (pv 6) (nomark _)) (pe_one (pe_cmpR op_eq (pe_call (ok_first_unlike T) (hr.mono (by decide)) (by rfl) T.f_first_unlike.g T.f_first_unlike.F.kp T.f_first_unlike.b .nil pass0 (pa_cons (pv 5) (pa_cons (pv 1) pa_nil))) (pv 6) (nomark _)))))))))), ?_⟩
  walk_at "rd"
  have hat : atI xs (-1) = some (V.ref b) := by
    rw [← hxlast]
    exact atI_last _ _
  refine ⟨_, rfl, _, rfl, ix_lst ha hat ⟨b, _, rfl, SqT.of hb, rfl, _, _, rfl, _, _, rfl, rfl, ?_⟩⟩
  refine ⟨_, rfl, 1, rfl, -1, rfl, a, xs, rfl, SqL.of ha, fun q1 n1 => ?_⟩
  rw [cutM1]
  generalize hA1 : upd H q1 (.lst xs.dropLast) = A1 at *
  have s1 : Same H A1 := hA1 ▸ same_upd n1
  have k1 : A1 q1 = some (.lst xs.dropLast) := hA1 ▸ upd_same
  have g1 := Go.of_same hp s1
  refine ⟨_, rfl, 1, rfl, -1, rfl, a, xs, rfl, SqL.of (s1 _ _ ha), fun q2 n2 => ?_⟩
  rw [cutM1]
  generalize hA2 : upd A1 q2 (.lst xs.dropLast) = A2 at *
  have s2 : Same A1 A2 := hA2 ▸ same_upd n2
  have k2 : A2 q2 = some (.lst xs.dropLast) := hA2 ▸ upd_same
  have g2 := g1.same s2
  refine ⟨_, rfl, _, rfl, _, _, rfl, rfl, ?_⟩
  walk_at "rd"
  rw [show (y.2 : Int) - 1 = ((y.2 - 1 : Nat) : Int) by omega]
  refine ⟨by show 2 ≤ sizeLine; decide, fun t1 n3 => ?_⟩
  generalize hA3 : upd A2 t1 (.tup [V.str (tx y.1), V.int ((y.2 - 1 : Nat) : Int)]) = A3 at *
  have s3 : Same A2 A3 := hA3 ▸ same_upd n3
  have k3 : A3 t1 = some (.tup [V.str (tx y.1), V.int ((y.2 - 1 : Nat) : Int)]) := hA3 ▸ upd_same
  have g3 := g2.same s3
  refine ⟨by show 1 ≤ sizeLine; decide, fun l1 n4 => ?_⟩
  generalize hA4 : upd A3 l1 (.lst [V.ref t1]) = A4 at *
  have s4 : Same A3 A4 := hA4 ▸ same_upd n4
  have k4 : A4 l1 = some (.lst [V.ref t1]) := hA4 ▸ upd_same
  have g4 := g3.same s4
  refine ⟨_, rfl, _, _, rfl, rfl, .inr ⟨_, rfl, ?_⟩⟩
  have ei : (if (decide ((1 : Int) < (y.2 : Int))) = true then (1 : Int) else 0) = ((if 0 < y.2 - 1 then 1 else 0 : Nat) : Int) := by
    by_cases h0 : 0 < y.2 - 1
    · rw [if_pos (decide_eq_true (by omega)), if_pos h0]
      rfl
    · rw [if_neg (fun z => h0 (by have := of_decide_eq_true z; omega)), if_neg h0]
      rfl
  walk_at "rd"
  rw [ei]
  generalize hc1 : (if 0 < y.2 - 1 then 1 else 0 : Nat) = c1 at *
  have hc1l : c1 ≤ 1 := by rw [← hc1]; split <;> omega
  refine ⟨l1, _, [V.ref t1], rfl, rfl, k4, by omega, by omega, ?_, fun l2 n5 => ?_⟩
  · rw [Int.toNat_natCast]
    exact Nat.le_trans (show [V.ref t1].length * c1 ≤ 1 by show 1 * c1 ≤ 1; omega) (by decide)
  rw [Int.toNat_natCast, flat_rep] at *
  generalize hA5 : upd A4 l2 (.lst (List.replicate c1 (V.ref t1))) = A5 at *
  have s5 : Same A4 A5 := hA5 ▸ same_upd n5
  have k5 : A5 l2 = some (.lst (List.replicate c1 (V.ref t1))) := hA5 ▸ upd_same
  have g5 := g4.same s5
  have hdx : xs.dropLast.length = ps.length - 1 := by rw [List.length_dropLast, hxl]
  refine ⟨q2, l2, _, _, rfl, rfl, s5 _ _ (s4 _ _ (s3 _ _ k2)), k5, Nat.le_trans (show xs.dropLast.length + (List.replicate c1 (V.ref t1)).length ≤ 39 by rw [List.length_replicate]; omega) (by decide), fun q3 n6 => ?_⟩
  generalize hA6 : upd A5 q3 (.lst (xs.dropLast ++ List.replicate c1 (V.ref t1))) = A6 at *
  have s6 : Same A5 A6 := hA6 ▸ same_upd n6
  have k6 : A6 q3 = some (.lst (xs.dropLast ++ List.replicate c1 (V.ref t1))) := hA6 ▸ upd_same
  have g6 := g5.same s6
  refine ⟨_, rfl, by show 2 ≤ sizeLine; decide, fun t2 n7 => ?_⟩
  rw [k_ab]
  generalize hA7 : upd A6 t2 (.tup [V.str (tx [97, 98]), V.int 1]) = A7 at *
  have s7 : Same A6 A7 := hA7 ▸ same_upd n7
  have k7 : A7 t2 = some (.tup [V.str (tx [97, 98]), V.int 1]) := hA7 ▸ upd_same
  have g7 := g6.same s7
  refine ⟨by show 1 ≤ sizeLine; decide, fun l3 n8 => ?_⟩
  generalize hA8 : upd A7 l3 (.lst [V.ref t2]) = A8 at *
  have s8 : Same A7 A8 := hA8 ▸ same_upd n8
  have k8 : A8 l3 = some (.lst [V.ref t2]) := hA8 ▸ upd_same
  have g8 := g7.same s8
  have s18 : Same H A8 := ((((((s1.trans s2).trans s3).trans s4).trans s5).trans s6).trans s7).trans s8
  refine ⟨a, l3, _, _, rfl, rfl, s18 _ _ ha, k8, Nat.le_trans (show xs.length + [V.ref t2].length ≤ 39 by show xs.length + 1 ≤ 39; omega) (by decide), fun q4 n9 => ?_⟩
  generalize hA9 : upd A8 q4 (.lst (xs ++ [V.ref t2])) = A9 at *
  have s9 : Same A8 A9 := hA9 ▸ same_upd n9
  have k9 : A9 q4 = some (.lst (xs ++ [V.ref t2])) := hA9 ▸ upd_same
  have g9 := g8.same s9
  refine ⟨by show 3 ≤ sizeLine; decide, fun l4 n10 => ?_⟩
  generalize hA10 : upd A9 l4 (.lst [V.ref q1, V.ref q3, V.ref q4]) = A10 at *
  have s10 : Same A9 A10 := hA10 ▸ same_upd n10
  have k10 : A10 l4 = some (.lst [V.ref q1, V.ref q3, V.ref q4]) := hA10 ▸ upd_same
  have g10 := g9.same s10
  have s110 : Same H A10 := (s18.trans s9).trans s10
  have s310 : Same A3 A10 := ((((((s4.trans s5).trans s6).trans s7).trans s8).trans s9).trans s10)
  have s610 : Same A6 A10 := (((s7.trans s8).trans s9).trans s10)
  refine ⟨_, rfl, _, rfl, p, 3, rfl, g10.spr, by decide, by decide, fun H2 r gr r0 rl => ?_⟩
  have gH := g10.trans gr
  have hps10 : Paired (PcT p A10) xs ps := prd_same (fun _ _ z => PcT.go (.of_same hp s110) z) hps
  have p1 : PcT p A10 (.ref t1) (y.1, y.2 - 1) := ⟨t1, rfl, g2.spr.ne n3, s310 _ _ k3⟩
  have p2 : PcT p A10 (.ref t2) ([97, 98], 1) := ⟨t2, rfl, g6.spr.ne n7, (((s8.trans s9).trans s10)) _ _ k7⟩
  have okr : ∀ z ∈ List.replicate c1 (y.1, y.2 - 1), OkW z := fun z hz => by
    obtain ⟨h1, h2⟩ := List.mem_replicate.mp hz
    subst h2
    refine ⟨gy1, gy2, gy3, ?_⟩
    show 1 ≤ y.2 - 1
    rw [← hc1] at h1
    split at h1 <;> omega
  have hspl : (spell ps).length = size ps := spell_len ps
  have hspd : (spell ps.dropLast).length = size ps.dropLast := spell_len _
  have hmul : y.2 * y.1.length = y.1.length * y.2 := Nat.mul_comm _ _
  obtain ⟨l, qs, hl, htq, hgq, hun⟩ : ∃ (l : Addr) (qs : Pcs), atI [V.ref q1, V.ref q3, V.ref q4] r = some (.ref l) ∧ TxtL p A10 l qs ∧ Good qs ∧ Unlike (spell ps) (spell qs) (min (size ps) (size qs)) := by
    have hb30 : (100000000000000000000000000000 : Nat) + 2 ≤ 10 ^ 30 := by decide
    have : r = 0 ∨ r = 1 ∨ r = 2 := by omega
    rcases this with rfl | rfl | rfl
    · refine ⟨q1, ps.dropLast, rfl, ⟨hp.ne n1, _, ((((((((s2.trans s3).trans s4).trans s5).trans s6).trans s7).trans s8).trans s9).trans s10) _ _ k1, prd_init hps10⟩, good_w2 hokd (by omega) (by omega), ?_⟩
      have h1 : 0 < y.1.length * y.2 := Nat.mul_pos hypos gy4
      have hu := unlike_prefix (A := spell ps) (B := spell ps.dropLast) (by omega) (by rw [hspell, List.take_left])
      rw [hspd] at hu
      rw [show min (size ps) (size ps.dropLast) = size ps.dropLast by omega]
      exact hu
    · have hsq : spell (ps.dropLast ++ List.replicate c1 (y.1, y.2 - 1)) = spell ps.dropLast ++ rep y.1 (y.2 - 1) := by rw [spell_app, ← hc1, spell_rep]
      have hzq : size (ps.dropLast ++ List.replicate c1 (y.1, y.2 - 1)) + y.1.length = size ps := by
        rw [← spell_len, hsq, List.length_append, hspd, rep_len, hsize, Nat.sub_mul, Nat.one_mul, hmul]
        have : y.1.length * 1 ≤ y.1.length * y.2 := Nat.mul_le_mul_left _ gy4
        omega
      refine ⟨q3, ps.dropLast ++ List.replicate c1 (y.1, y.2 - 1), rfl, ⟨g5.spr.ne n6, _, s610 _ _ k6, prd_app (prd_init hps10) (prd_rep p1 c1)⟩, good_w2 (fun z hz => ?_) ?_ (by omega), ?_⟩
      · rcases List.mem_append.mp hz with hz | hz
        · exact hokd z hz
        · exact okr z hz
      · rw [List.length_append, List.length_replicate]
        omega
      · have hlq : (spell (ps.dropLast ++ List.replicate c1 (y.1, y.2 - 1))).length = size (ps.dropLast ++ List.replicate c1 (y.1, y.2 - 1)) := spell_len _
        have hu := unlike_prefix (A := spell ps) (B := spell (ps.dropLast ++ List.replicate c1 (y.1, y.2 - 1))) (by omega) (by
          rw [hsq]
          have e : rep y.1 y.2 = rep y.1 (y.2 - 1) ++ y.1 := by
            have := rep_add y.1 1 (y.2 - 1)
            rw [show y.2 - 1 + 1 = y.2 by omega, rep_one] at this
            exact this
          rw [hspell, e, ← List.append_assoc, List.take_left])
        rw [hlq] at hu
        rw [show min (size ps) (size (ps.dropLast ++ List.replicate c1 (y.1, y.2 - 1))) = size (ps.dropLast ++ List.replicate c1 (y.1, y.2 - 1)) by omega]
        exact hu
    · have hsq : spell (ps ++ [([97, 98], 1)]) = spell ps ++ [97, 98] := by rw [spell_app, spell_one, rep_one]
      have hzq : size (ps ++ [([97, 98], 1)]) = size ps + 2 := by rw [← spell_len, hsq, List.length_append, hspl]; rfl
      refine ⟨q4, ps ++ [([97, 98], 1)], rfl, ⟨g8.spr.ne n9, _, s10 _ _ k9, prd_app hps10 (.cons p2 .nil)⟩, good_w2 (fun z hz => ?_) ?_ (by omega), ?_⟩
      · rcases List.mem_append.mp hz with hz | hz
        · exact hok z hz
        · have : z = ([97, 98], 1) := by simpa using hz
          subst this
          exact ⟨by show List.all _ _ = true; decide, by simp, by decide, by decide⟩
      · rw [List.length_append]
        show ps.length + 1 ≤ 40
        omega
      · have hlq : (spell (ps ++ [([97, 98], 1)])).length = size (ps ++ [([97, 98], 1)]) := spell_len _
        have hu := unlike_prefix (A := spell (ps ++ [([97, 98], 1)])) (B := spell ps) (by omega) (by rw [hsq, List.take_left])
        rw [hspl] at hu
        rw [show min (size ps) (size (ps ++ [([97, 98], 1)])) = size ps by omega]
        exact hu.symm
  refine ix_lst (gr.keep _ _ (g9.spr.ne n10) k10) hl ?_
  have hgp := good_w2 hok (by omega) (Nat.le_trans hsz (by decide))
  have hitp := isText_dOf hgp
  have hitq := isText_dOf hgq
  have hpcp := pcs_dOf ps
  have hpcq := pcs_dOf qs
  have txp : TxtL p H2 a ps := htx.go gH
  have txq : TxtL p H2 l qs := htq.go gr
  have h60p : ∀ z ∈ ps, z.1.length ≤ 60 := fun z hz => (good_w hgp z hz).2
  have h60q : ∀ z ∈ qs, z.1.length ≤ 60 := fun z hz => (good_w hgq z hz).2
  refine ⟨_, rfl, _, dOf ps, rfl, txp.at h60p, hitp, fun H3 s3' => ?_⟩
  have txq3 := txq.go (.of_same gH.spr s3')
  refine ⟨_, rfl, _, dOf qs, rfl, txq3.at h60q, hitq, fun H4 s4' => ⟨_, _, rfl, ?_⟩⟩
  have txp4 := (txp.go (.of_same gH.spr (s3'.trans s4')))
  have txq4 := (txq.go (.of_same gH.spr (s3'.trans s4')))
  have gH4 := (gH.same s3').same s4'
  walk_at "rd"
  rw [hpcp, hpcq]
  have emin : (if (size qs : Int) < (size ps : Int) then (size qs : Int) else (size ps : Int)) = ((min (size ps) (size qs) : Nat) : Int) := by
    split <;> omega
  rw [emin]
  refine ⟨_, rfl, _, rfl, _, _, dOf ps, dOf qs, rfl, txp4.at h60p, txq4.at h60q, hitp, hitq, fun H5 i s5' hu => ?_, fun H5 s5' he => ?_⟩
  · rw [hpcp, hpcq] at hu
    have := hu.uniq hun
    subst this
    refine ⟨_, rfl, rfl, _, rfl, ?_⟩
    rw [decide_eq_true rfl]
    have txp5 := txp4.go (.of_same gH4.spr s5')
    have txq5 := txq4.go (.of_same gH4.spr s5')
    refine iteT ⟨_, rfl, _, rfl, _, _, dOf qs, dOf ps, rfl, txq5.at h60q, txp5.at h60p, hitq, hitp, fun H6 i2 s6' hu2 => ?_, fun H6 s6' he => ?_⟩
    · rw [hpcp, hpcq] at hu2
      have := hu2.symm.uniq hun
      subst this
      refine ⟨_, rfl, rfl, ?_⟩
      rw [decide_eq_true rfl]
      exact q _ ((gH4.same s5').same s6')
    · rw [hpcp, hpcq] at he
      exact absurd he.symm hun.ne
  · rw [hpcp, hpcq] at he
    exact absurd he hun.ne

theorem nth_succ' {l : List Nat} {c k i : Nat} (h : IsNth l c k i) : (l.take (i + 1)).count c = k + 1 := by
  obtain ⟨h1, h2⟩ := h
  rw [List.take_add_one, h1, List.count_append, h2]
  simp
theorem nth_lt' {l : List Nat} {c k i : Nat} (h : IsNth l c k i) : k < l.count c := by
  have h3 := nth_succ' h
  have h4 : (l.take (i + 1)).count c ≤ l.count c := List.Sublist.count_le c (List.take_sublist _ _)
  omega
theorem shareH {C : Hp → Prop} {R : Hp → Prop} {G : Prop} (h : (∀ H, C H → R H) → G) (r : ∀ H, C H → R H) : G := h r
/-! ## the law -/
theorem IsNth.uniq {l : List Nat} {c k i j : Nat} (h : IsNth l c k i) (g : IsNth l c k j) : i = j := by
  have key : ∀ {i j : Nat}, IsNth l c k i → IsNth l c k j → ¬ i < j := fun {i j} h g hlt => by
    have h1 := nth_succ' h
    have h2 : (l.take (i + 1)).count c ≤ (l.take j).count c := by
      have e : l.take (i + 1) = (l.take j).take (i + 1) := by rw [List.take_take, Nat.min_eq_left (by omega)]
      rw [e]
      exact List.Sublist.count_le c (List.take_sublist _ _)
    have h3 := g.2
    omega
  have h1 := key h g
  have h2 := key g h
  omega
theorem size_okP {wide times : Int} {w t : Nat} (hw : wide ≤ (w : Int)) (ht : times ≤ (t : Int)) : ∀ (qs : Pcs), (∀ x ∈ qs, OkP wide times x) → size qs ≤ qs.length * (w * t)
  | [], _ => Nat.zero_le _
  | y :: qs, h => by
    obtain ⟨h1, h2, h3, h4, h5⟩ := h y (List.mem_cons_self ..)
    have h6 := size_okP hw ht qs fun x hx => h x (List.mem_cons_of_mem _ hx)
    have h7 : y.1.length * y.2 ≤ w * t := Nat.mul_le_mul (by omega) (by omega)
    rw [size_cons, List.length_cons, Nat.add_mul, Nat.one_mul]
    omega
def spLaw (K : PySem.W.Frag) : Sp := fun vs H Q _ => ∃ (a : Addr) (ns : List Int), vs = [.ref a] ∧ SqL K H a (ns.map V.int) ∧ ns.length ≤ 63 ∧ ∀ H', Q (.bl true) H'
theorem ok_law (T : Txt K mg) : FnOk P w K mg base CX0 9 T.f_law.f T.f_law.fd ["script"] (spLaw K) := by
  refine T.f_law.F.ok sc_law (fun vs H Q E h => ?_) (fun cdv A outer s H vs Q E hr h => ?_)
  · obtain ⟨a, ns, rfl, _⟩ := h
    rfl
  obtain ⟨a, ns, rfl, hs, hlen, q⟩ := h
  refine ⟨_, (pss_cons (ps_set (i := 1) sc_law.nd rfl (.inl rfl) (pe_call (ok__law_spring T) (hr.mono (by decide)) (by rfl) T.f__law_spring.g T.f__law_spring.F.kp T.f__law_spring.b .nil pass0 (pa_cons (pv 0) pa_nil)))
      (pss_cons (ps_for PassesOwn.never rfl (pi_range1 (by rfl) T.b_range (pa_cons (pe_op op_add pe_int (pe_callB (call_min2 rfl) (by rfl) T.b_min (by decide +kernel) (pa_cons (pe_callB (call_lenK K) (by rfl) T.b_len (by decide +kernel) (pa_cons (pv 0) pa_nil)) (pa_cons pe_int pa_nil)))) pa_nil)) (pg_name (i := 2) sc_law.nd rfl (.inl rfl))
        (pss_cons (ps_set (i := 3) sc_law.nd rfl (.inl rfl) (pe_call (ok__law_text T) (hr.mono (by decide)) (by rfl) T.f__law_text.g T.f__law_text.F.kp T.f__law_text.b .nil pass0 (pa_cons (pv 1) (pa_cons pe_int (pa_cons pe_int (pa_cons (pe_ix ix_seq (pe_lst (pa_cons pe_int (pa_cons (pe_op op_pow pe_int pe_int) (pa_cons (pe_op op_pow pe_int pe_int) pa_nil)))) (pe_call (ok__law_draw T) (hr.mono (by decide)) (by rfl) T.f__law_draw.g T.f__law_draw.F.kp T.f__law_draw.b .nil pass0 (pa_cons (pv 1) (pa_cons pe_int pa_nil))) (fun _ _ => rfl)) pa_nil))))))
      (pss_cons (ps_set (i := 4) sc_law.nd rfl (.inl rfl) (pe_lst pa_nil))
      (pss_cons (ps_for PassesOwn.never rfl (pi_list (pv 3)) (pg_name (i := 5) sc_law.nd rfl (.inl rfl))
        (pss_one (ps_set (i := 4) sc_law.nd rfl (.inl rfl) (pe_op op_cat (pv 4) (pe_call (ok__law_otherwise T) (hr.mono (by decide)) (by rfl) T.f__law_otherwise.g T.f__law_otherwise.F.kp T.f__law_otherwise.b .nil pass0 (pa_cons (pv 1) (pa_cons (pv 5) pa_nil)))))))
      (pss_cons (ps_set (i := 6) sc_law.nd rfl (.inl rfl) (pe_call (ok_length T) (hr.mono (by decide)) (by rfl) T.f_length.g T.f_length.F.kp T.f_length.b .nil pass0 (pa_cons (pv 3) pa_nil)))
      (pss_cons (ps_if (PW.pt (pw_or (pt_not (pt_val (pe_call (ok__law_long_right T) (hr.mono (by decide)) (by rfl) T.f__law_long_right.g T.f__law_long_right.F.kp T.f__law_long_right.b .nil pass0 (pa_cons (pv 1) pa_nil)))) (pw_or1 (PW.pt (pw_and (pt_cmpR op_gt (pv 6) pe_int (nomark _)) (pw_and1 (pt_not (pt_val (pe_call (ok__law_ends_right T) (hr.mono (by decide)) (by rfl) T.f__law_ends_right.g T.f__law_ends_right.F.kp T.f__law_ends_right.b .nil pass0 (pa_cons (pv 1) (pa_cons (pv 3) pa_nil))))))))))) (pss_one (ps_ret pe_bl)) pss_nil)
      (pss_cons (ps_if (PW.pt (pw_or (pt_cmpR op_ne (pe_call (ok_length T) (hr.mono (by decide)) (by rfl) T.f_length.g T.f_length.F.kp T.f_length.b .nil pass0 (pa_cons (pv 4) pa_nil)) (pv 6) (nomark _)) (pw_or (pt_cmpR op_notN (pe_call (ok_first_unlike T) (hr.mono (by decide)) (by rfl) T.f_first_unlike.g T.f_first_unlike.F.kp T.f_first_unlike.b .nil pass0 (pa_cons (pv 3) (pa_cons (pv 4) pa_nil))) pe_non (nomark _)) (pw_or1 (pt_cmpR op_notN (pe_call (ok_first_unlike T) (hr.mono (by decide)) (by rfl) T.f_first_unlike.g T.f_first_unlike.F.kp T.f_first_unlike.b .nil pass0 (pa_cons (pv 4) (pa_cons (pv 3) pa_nil))) pe_non (nomark _)))))) (pss_one (ps_ret pe_bl)) pss_nil)
      (pss_one (ps_for PassesOwn.never rfl (pi_range1 (by rfl) T.b_range (pa_cons (pe_op op_mul pe_int (pe_callTy call_int1 (by rfl) T.b_int (by decide +kernel) (pa_cons (pe_cmpR op_gt (pv 6) pe_int (nomark _)) pa_nil))) pa_nil)) (pg_name (i := 7) sc_law.nd rfl (.inl rfl))
        (pss_cons (ps_set (i := 8) sc_law.nd rfl (.inl rfl) (pe_call (ok__law_draw T) (hr.mono (by decide)) (by rfl) T.f__law_draw.g T.f__law_draw.F.kp T.f__law_draw.b .nil pass0 (pa_cons (pv 1) (pa_cons (pv 6) pa_nil))))
      (pss_cons (ps_set (i := 9) sc_law.nd rfl (.inl rfl) (pe_call (ok_letter T) (hr.mono (by decide)) (by rfl) T.f_letter.g T.f_letter.F.kp T.f_letter.b .nil pass0 (pa_cons (pv 3) (pa_cons (pv 8) pa_nil))))
      (pss_cons (ps_set (i := 10) sc_law.nd rfl (.inl rfl) (pe_call (ok_count T) (hr.mono (by decide)) (by rfl) T.f_count.g T.f_count.F.kp T.f_count.b .nil pass0 (pa_cons (pv 3) (pa_cons (pv 9) (pa_cons (pv 8) pa_nil)))))
      (pss_cons (ps_if (PW.pt (pw_or (pt_cmpR op_ne (pe_call (ok_letter T) (hr.mono (by decide)) (by rfl) T.f_letter.g T.f_letter.F.kp T.f_letter.b .nil pass0 (pa_cons (pv 4) (pa_cons (pv 8) pa_nil))) (pv 9) (nomark _)) (pw_or1 (pt_cmpR op_ne (pe_call (ok_count T) (hr.mono (by decide)) (by rfl) T.f_count.g T.f_count.F.kp T.f_count.b .nil pass0 (pa_cons (pv 4) (pa_cons (pv 9) (pa_cons (pv 8) pa_nil)))) (pv 10) (nomark _))))) (pss_one (ps_ret pe_bl)) pss_nil)
      (pss_cons (ps_if (PW.pt (pw_or (pt_cmpR op_ne (pe_call (ok_nth T) (hr.mono (by decide)) (by rfl) T.f_nth.g T.f_nth.F.kp T.f_nth.b .nil pass0 (pa_cons (pv 4) (pa_cons (pv 9) (pa_cons (pv 10) pa_nil)))) (pv 8) (nomark _)) (pw_or1 (pt_cmpR op_ne (pe_call (ok_nth T) (hr.mono (by decide)) (by rfl) T.f_nth.g T.f_nth.F.kp T.f_nth.b .nil pass0 (pa_cons (pv 3) (pa_cons (pv 9) (pa_cons (pv 10) pa_nil)))) (pv 8) (nomark _))))) (pss_one (ps_ret pe_bl)) pss_nil)
      (pss_one (ps_if (pt_cmpR op_ne (pv 9) pe_str (nomark _)) (pss_cons (ps_set (i := 11) sc_law.nd rfl (.inl rfl) (pe_call (ok__law_bent T) (hr.mono (by decide)) (by rfl) T.f__law_bent.g T.f__law_bent.F.kp T.f__law_bent.b .nil pass0 (pa_cons (pv 4) (pa_cons (pv 8) pa_nil))))
      (pss_one (ps_if (PW.pt (pw_or (pt_cmpR op_ne (pe_call (ok_first_unlike T) (hr.mono (by decide)) (by rfl) T.f_first_unlike.g T.f_first_unlike.F.kp T.f_first_unlike.b .nil pass0 (pa_cons (pv 3) (pa_cons (pv 11) pa_nil))) (pv 8) (nomark _)) (pw_or1 (pt_cmpR op_ne (pe_call (ok_first_unlike T) (hr.mono (by decide)) (by rfl) T.f_first_unlike.g T.f_first_unlike.F.kp T.f_first_unlike.b .nil pass0 (pa_cons (pv 11) (pa_cons (pv 4) pa_nil))) (pv 8) (nomark _))))) (pss_one (ps_ret pe_bl)) pss_nil))) pss_nil))))))))))))))))
      (pss_one (ps_ret pe_bl)))), ?_⟩
  walk_at "rd"
  refine ⟨_, rfl, a, ns, rfl, hs, hlen, fun H1 p s1 fp spr => ?_⟩
  refine fr_rng1 ?_
  walk_at "rd"
  refine ⟨_, rfl, len_row (.inl (s1.seq hs)) ⟨_, _, rfl, ?_⟩⟩
  refine ⟨_, _, rfl, rfl, _, rfl, by split <;> omega, by split <;> omega, ForGo.range
    (fun i σ H2 => ∃ y2 y3 y4 y5 y6 y7 y8 y9 y10 y11, σ = [some (.ref a), some (.ref p), y2, y3, y4, y5, y6, y7, y8, y9, y10, y11] ∧ Go p H1 H2)
    ⟨_, _, _, _, _, _, _, _, _, _, rfl, Go.refl spr⟩ ?_ ?_⟩
  · rintro i σ H2 hi ⟨y2, y3, y4, y5, y6, y7, y8, y9, y10, y11, rfl, g2⟩
    walk_at "rd"
    refine ⟨_, rfl, _, _, rfl, rfl, ⟨by decide, by decide, by decide⟩, _, _, rfl, rfl, ⟨by decide, by decide, by decide⟩, by show 3 ≤ sizeLine; decide, fun l nl => ?_⟩
    have hlp := g2.spr.ne nl
    have g3 := go_new (o := .lst [V.int 9, V.int (10 ^ Int.toNat 12), V.int (10 ^ Int.toNat 26)]) g2 nl
    refine ⟨_, rfl, p, 3, rfl, g3.spr, by decide, by decide, fun H3 r gr r0 rl => ?_⟩
    have g4 := g3.trans gr
    obtain ⟨tm, htm, ht1, ht2⟩ : ∃ tm : Int, atI [V.int 9, V.int (10 ^ Int.toNat 12), V.int (10 ^ Int.toNat 26)] r = some (.int tm) ∧ 1 ≤ tm ∧ tm ≤ 100000000000000000000000000 := by
      have : r = 0 ∨ r = 1 ∨ r = 2 := by omega
      rcases this with rfl | rfl | rfl
      · exact ⟨_, rfl, by decide, by decide⟩
      · exact ⟨_, rfl, by decide +kernel, by decide +kernel⟩
      · exact ⟨_, rfl, by decide +kernel, by decide +kernel⟩
    refine ix_lst (gr.keep _ _ hlp upd_same) htm ⟨p, 12, 30, tm, rfl, g4.spr, by decide, by decide, by decide, by decide, ht1, by omega, fun H4 t ps g5 nt htx hpl hokP => ?_⟩
    have hsz := size_okP (w := 30) (t := 100000000000000000000000000) (by decide) ht2 ps hokP
    have hsz2 : ps.length * (30 * 100000000000000000000000000) ≤ 12 * (30 * 100000000000000000000000000) := Nat.mul_le_mul_right _ (by omega)
    have hok : ∀ y ∈ ps, OkW y := fun y hy => by
      obtain ⟨h1, h2, h3, h4, h5⟩ := hokP y hy
      exact ⟨h1, h2, by omega, h4⟩
    have g6 := g4.trans g5
    obtain ⟨htp, xs, ht, hps⟩ := id htx
    have hxl := prd_len hps
    refine ⟨Nat.zero_le _, fun o no => ?_⟩
    have hop := g6.spr.ne no
    refine fr_list ?_
    walk_at "rd"
    refine ⟨_, rfl, t, rfl, ⟨_, SqL.of (same_upd no _ _ ht)⟩, ForGo.list (xs := xs)
      (fun i σ H5 => ∃ (o : Addr) (qs : Pcs) (z5 z6 z7 z8 z9 z10 z11 y2 : Option V), σ = [some (.ref a), some (.ref p), y2, some (.ref t), some (.ref o), z5, z6, z7, z8, z9, z10, z11] ∧ Go p H4 H5 ∧ TxtL p H5 o qs ∧ spell qs = spell (ps.take i) ∧ qs.length ≤ 3 * i ∧ ∀ y ∈ qs, OkW y)
      ⟨o, [], _, _, _, _, _, _, _, _, rfl, go_new (Go.refl g6.spr) no, ⟨hop, [], upd_same, .nil⟩, rfl, Nat.zero_le _, fun y hy => by cases hy⟩ (fun i σ H5 _ ⟨_, _, _, _, _, _, _, _, _, _, _, g, _⟩ => SqL.of (g.keep _ _ htp ht)) ?_ ?_⟩
    · rintro j x σ H5 hx ⟨o, qs, z5, z6, z7, z8, z9, z10, z11, y2, rfl, g7, hq, hsp, hql, hqok⟩
      obtain ⟨y, hy, b, rfl, hbp, hb⟩ := prd_at hps hx
      have hj := (List.getElem?_eq_some_iff.mp hx).1
      obtain ⟨h1, h2, h3, h4, h5⟩ := hokP y (List.mem_of_getElem? hy)
      obtain ⟨hop', us, ho, hus⟩ := id hq
      walk_at "rd"
      refine ⟨_, rfl, _, rfl, _, rfl, p, b, y.1, y.2, rfl, g7.spr, hbp, g7.keep _ _ hbp hb, ⟨h1, h2, by show y.1.length ≤ 60; omega, h4⟩, by omega, by omega, fun H6 f rs g8 hf hrs hrl hrok => ?_⟩
      obtain ⟨hfp, ws, hf2, hws⟩ := id hf
      have hul := prd_len hus
      have hwl := prd_len hws
      have ho6 := g8.keep _ _ hop' ho
      refine ⟨o, f, _, _, rfl, rfl, ho6, hf2, Nat.le_trans (show us.length + ws.length ≤ 39 by omega) (by decide), fun c nc => ?_⟩
      refine ⟨c, qs ++ rs, _, _, _, _, _, _, _, _, rfl, go_new (g7.trans g8) nc, ⟨g8.spr.ne nc, _, upd_same, ?_⟩, ?_, ?_, ?_⟩
      · exact prd_app (prd_same (fun _ _ z => PcT.go (g8.same (same_upd nc)) z) hus) (prd_same (fun _ _ z => PcT.go (.of_same g8.spr (same_upd nc)) z) hws)
      · rw [spell_app, hsp, hrs, spell_take_succ hy]
      · rw [List.length_append]
        omega
      · intro z hz
        rcases List.mem_append.mp hz with hz | hz
        · exact hqok z hz
        · exact hrok z hz
    · rintro σ H5 ⟨o, qs, z5, z6, z7, z8, z9, z10, z11, y2, rfl, g7, hq, hsp, hql, hqok⟩
      rw [hxl] at hsp hql
      rw [List.take_length] at hsp
      have hsize : size qs = size ps := by rw [← spell_len, hsp, spell_len]
      have hb1 : 12 * (30 * 100000000000000000000000000) ≤ 10 ^ 30 := by decide
      have hgp := good_w2 hok (by omega) (by omega)
      have hgq := good_w2 hqok (by omega) (by omega)
      have hitp := isText_dOf hgp
      have hitq := isText_dOf hgq
      have hpcp := pcs_dOf ps
      have hpcq := pcs_dOf qs
      have h60p : ∀ z ∈ ps, z.1.length ≤ 60 := fun z hz => (good_w hgp z hz).2
      have h60q : ∀ z ∈ qs, z.1.length ≤ 60 := fun z hz => (good_w hgq z hz).2
      have hspl : (spell ps).length = size ps := spell_len ps
      have g8 := g6.trans g7
      have tx5 := htx.go g7
      walk_at "rd"
      refine ⟨_, rfl, _, dOf ps, rfl, tx5.at h60p, hitp, fun H6 s6 => ?_⟩
      rw [hpcp]
      have g9 := g8.same s6
      have tx6 := tx5.go (.of_same g8.spr s6)
      have tq6 := hq.go (.of_same g8.spr s6)
      refine ⟨_, rfl, p, rfl, g9.spr, fun H7 g10 => ⟨_, rfl, iteF ?_⟩⟩
      have g11 := g9.trans g10
      have tx7 := tx6.go g10
      have tq7 := tq6.go g10
      -- behind the test of the ends
      apply shareH (C := fun H8 => Go p H7 H8)
      · intro rest
        refine ⟨_, rfl, _, _, rfl, rfl, _, rfl, ite2 (fun e1 => ?_) (fun e1 => ?_)⟩
        · have hne : ps ≠ [] := fun z => by
            have h0 : (0 : Int) < (size ps : Int) := of_decide_eq_true e1
            rw [z] at h0
            exact absurd h0 (by decide)
          refine ⟨_, rfl, _, rfl, p, t, ps, rfl, g11.spr, tx7, hok, hne, by omega, by omega, fun H8 g12 => ⟨_, rfl, iteF ?_⟩⟩
          exact rest H8 g12
        · exact iteF (rest H7 (Go.refl g11.spr))
      · intro H8 g12
        have g13 := g11.trans g12
        have tx8 := tx7.go g12
        have tq8 := tq7.go g12
        -- of one length, and one
        refine ⟨_, rfl, _, dOf qs, rfl, tq8.at h60q, hitq, fun H9 s9 => ⟨_, rfl, rfl, _, rfl, ?_⟩⟩
        rw [hpcq, hsize, show (!decide (V.int (size ps : Int) = V.int (size ps : Int))) = false by rw [decide_eq_true rfl]; rfl]
        have tx9 := tx8.go (.of_same g13.spr s9)
        have tq9 := tq8.go (.of_same g13.spr s9)
        have g14 := g13.same s9
        refine iteF ⟨_, rfl, _, rfl, _, _, dOf ps, dOf qs, rfl, tx9.at h60p, tq9.at h60q, hitp, hitq, fun H10 i2 s10 hu => ?_, fun H10 s10 he => ?_⟩
        · rw [hpcp, hpcq] at hu
          exact absurd hsp.symm hu.ne
        have tx10 := tx9.go (.of_same g14.spr s10)
        have tq10 := tq9.go (.of_same g14.spr s10)
        have g15 := g14.same s10
        refine ⟨rfl, _, rfl, iteF ⟨_, rfl, _, rfl, _, _, dOf qs, dOf ps, rfl, tq10.at h60q, tx10.at h60p, hitq, hitp, fun H11 i2 s11 hu => ?_, fun H11 s11 he2 => ?_⟩⟩
        · rw [hpcp, hpcq] at hu
          exact absurd hsp hu.ne
        have tx11 := tx10.go (.of_same g15.spr s11)
        have tq11 := tq10.go (.of_same g15.spr s11)
        have g16 := g15.same s11
        refine ⟨rfl, _, rfl, iteF ?_⟩
        -- four places
        refine fr_rng1 ?_
        walk_at "rd"
        refine ⟨_, rfl, _, _, rfl, rfl, .inr ⟨_, rfl, ?_⟩⟩
        obtain ⟨m, hm, hm4, hmp⟩ : ∃ m : Nat, (4 : Int) * (if (decide ((0 : Int) < (size ps : Int))) = true then (1 : Int) else 0) = (m : Int) ∧ m ≤ 4 ∧ (0 < m → 0 < size ps) := by
          by_cases h0 : 0 < size ps
          · exact ⟨4, by rw [if_pos (decide_eq_true (by omega))]; rfl, Nat.le_refl _, fun _ => h0⟩
          · exact ⟨0, by rw [if_neg (fun z => h0 (by have := of_decide_eq_true z; omega))]; rfl, by decide, fun h => absurd h (by decide)⟩
        refine ⟨_, _, rfl, rfl, .inl ⟨by decide, by decide⟩, ?_⟩
        walk_at "rd"
        rw [hm]
        refine ⟨_, rfl, by omega, by omega, ForGo.range
          (fun i σ H12 => ∃ y2 w5 w7 w8 w9 w10 w11, σ = [some (.ref a), some (.ref p), y2, some (.ref t), some (.ref o), w5, some (.int (size ps : Int)), w7, w8, w9, w10, w11] ∧ Go p H11 H12)
          ⟨_, _, _, _, _, _, _, rfl, Go.refl g16.spr⟩ ?_ ?_⟩
        · rintro k σ H12 hk ⟨y2, w5, w7, w8, w9, w10, w11, rfl, g17⟩
          have hsp0 : 0 < size ps := hmp (by omega)
          have tx12 := tx11.go g17
          have tq12 := tq11.go g17
          have g18 := g16.trans g17
          walk_at "rd"
          refine ⟨_, rfl, _, rfl, p, _, rfl, g17.spr, by omega, by omega, fun H13 pl g19 pl0 pll => ?_⟩
          obtain ⟨pl, rfl⟩ := Int.eq_ofNat_of_zero_le pl0
          have hpl2 : pl < size ps := by omega
          have tx13 := tx12.go g19
          have tq13 := tq12.go g19
          have g20 := g18.trans g19
          have hget : (spell ps)[pl]? = some (spell ps)[pl] := List.getElem?_eq_getElem (by omega)
          generalize hc : (spell ps)[pl] = c at hget
          have hca : alpha.contains c = true := by
            rw [List.contains_iff_mem]
            exact spell_alpha hgp (List.mem_of_getElem? hget)
          refine ⟨_, rfl, _, rfl, _, dOf ps, pl, c, rfl, tx13.at h60p, hitp, by rw [hpcp]; exact hget, fun H14 s14 => ?_⟩
          have tx14 := tx13.go (.of_same g20.spr s14)
          have tq14 := tq13.go (.of_same g20.spr s14)
          have g21 := g20.same s14
          refine ⟨_, rfl, _, rfl, _, rfl, _, dOf ps, c, pl, rfl, tx14.at h60p, hitp, hca, by rw [hpcp]; omega, fun H15 s15 => ?_⟩
          rw [hpcp]
          have tx15 := tx14.go (.of_same g21.spr s15)
          have tq15 := tq14.go (.of_same g21.spr s15)
          have g22 := g21.same s15
          generalize hn : ((spell ps).take pl).count c = n at *
          have hnth : IsNth (spell ps) c n pl := ⟨hget, hn⟩
          refine ⟨_, rfl, _, rfl, _, dOf qs, pl, c, rfl, tq15.at h60q, hitq, by rw [hpcq, hsp]; exact hget, fun H16 s16 => ⟨_, rfl, rfl, _, rfl, ?_⟩⟩
          rw [show (!decide (V.str (tx [c]) = V.str (tx [c]))) = false by rw [decide_eq_true rfl]; rfl]
          have tx16 := tx15.go (.of_same g22.spr s16)
          have tq16 := tq15.go (.of_same g22.spr s16)
          have g23 := g22.same s16
          refine iteF ⟨_, rfl, _, rfl, _, rfl, _, dOf qs, c, pl, rfl, tq16.at h60q, hitq, hca, by rw [hpcq]; omega, fun H17 s17 => ⟨_, rfl, rfl, _, rfl, ?_⟩⟩
          rw [hpcq, hsp, hn, show (!decide (V.int (n : Int) = V.int (n : Int))) = false by rw [decide_eq_true rfl]; rfl]
          have tx17 := tx16.go (.of_same g23.spr s17)
          have tq17 := tq16.go (.of_same g23.spr s17)
          have g24 := g23.same s17
          refine iteF ⟨_, rfl, _, rfl, _, rfl, _, dOf qs, c, n, rfl, tq17.at h60q, hitq, hca, fun H18 j s18 hj => ?_, fun H18 s18 hle => ?_⟩
          · rw [hpcq, hsp] at hj
            have := hj.uniq hnth
            subst this
            refine ⟨_, rfl, rfl, _, rfl, ?_⟩
            rw [show (!decide (V.int (j : Int) = V.int (j : Int))) = false by rw [decide_eq_true rfl]; rfl]
            have tx18 := tx17.go (.of_same g24.spr s18)
            have tq18 := tq17.go (.of_same g24.spr s18)
            have g25 := g24.same s18
            refine iteF ⟨_, rfl, _, rfl, _, rfl, _, dOf ps, c, n, rfl, tx18.at h60p, hitp, hca, fun H19 j2 s19 hj2 => ?_, fun H19 s19 hle => ?_⟩
            · rw [hpcp] at hj2
              have := hj2.uniq hnth
              subst this
              refine ⟨_, rfl, rfl, _, rfl, ?_⟩
              rw [show (!decide (V.int (j2 : Int) = V.int (j2 : Int))) = false by rw [decide_eq_true rfl]; rfl]
              have tx19 := tx18.go (.of_same g25.spr s19)
              have tq19 := tq18.go (.of_same g25.spr s19)
              have g26 := g25.same s19
              refine iteF ⟨_, rfl, rfl, _, rfl, ?_⟩
              rw [k_q]
              have gEnd : ∀ {H'}, Go p H19 H' → Go p H11 H' := fun g => (((((((g17.trans g19).same s14).same s15).same s16).same s17).same s18).same s19).trans g
              by_cases hcq : c = 113
              · rw [hcq, show (!decide (V.str (tx [113]) = V.str (tx [113]))) = false by rw [decide_eq_true rfl]; rfl]
                exact iteF ⟨_, _, _, _, _, _, _, rfl, gEnd (Go.refl g26.spr)⟩
              · rw [show (!decide (V.str (tx [c]) = V.str (tx [113]))) = true by rw [decide_eq_false (fun z => hcq (by have := tx_inj (V.str.inj z); simpa using this))]; rfl]
                refine iteT ⟨_, rfl, _, rfl, p, o, qs, j2, rfl, g26.spr, tq19, hqok, by omega, by omega, fun H20 f bs g27 hf hfs hfl hfok => ?_⟩
                have tx20 := tx19.go g27
                have tq20 := tq19.go g27
                have g28 := g26.trans g27
                have hbl : size bs = size ps := by rw [← spell_len, hfs, List.length_set, hsp, spell_len]
                have hgb := good_w2 hfok (by omega) (by omega)
                have hitb := isText_dOf hgb
                have hpcb := pcs_dOf bs
                have h60b : ∀ z ∈ bs, z.1.length ≤ 60 := fun z hz => (good_w hgb z hz).2
                have hset : Unlike (spell ps) (spell bs) j2 := by
                  rw [hfs, hsp]
                  refine ⟨?_, fun z => ?_⟩
                  · rw [List.take_set_of_le (Nat.le_refl _)]
                  · rw [hget, List.getElem?_set_self (by omega)] at z
                    exact hcq (Option.some.inj z)
                refine ⟨_, rfl, _, rfl, _, _, dOf ps, dOf bs, rfl, tx20.at h60p, hf.at h60b, hitp, hitb, fun H21 i3 s21 hu => ?_, fun H21 s21 he3 => ?_⟩
                · rw [hpcp, hpcb] at hu
                  have := hu.uniq hset
                  subst this
                  refine ⟨_, rfl, rfl, _, rfl, ?_⟩
                  rw [show (!decide (V.int (i3 : Int) = V.int (i3 : Int))) = false by rw [decide_eq_true rfl]; rfl]
                  have tq21 := tq20.go (.of_same g28.spr s21)
                  have tb21 := hf.go (.of_same g28.spr s21)
                  have g29 := g28.same s21
                  refine iteF ⟨_, rfl, _, rfl, _, _, dOf bs, dOf qs, rfl, tb21.at h60b, tq21.at h60q, hitb, hitq, fun H22 i4 s22 hu4 => ?_, fun H22 s22 he4 => ?_⟩
                  · rw [hpcb, hpcq, hsp] at hu4
                    have := hu4.uniq hset.symm
                    subst this
                    refine ⟨_, rfl, rfl, _, rfl, ?_⟩
                    rw [show (!decide (V.int (i4 : Int) = V.int (i4 : Int))) = false by rw [decide_eq_true rfl]; rfl]
                    exact iteF ⟨_, _, _, _, _, _, _, rfl, gEnd ((g27.same s21).same s22)⟩
                  · rw [hpcb, hpcq, hsp] at he4
                    exact absurd he4.symm hset.ne
                · rw [hpcp, hpcb] at he3
                  exact absurd he3 hset.ne
            · rw [hpcp] at hle
              have := nth_lt' hnth
              omega
          · rw [hpcq, hsp] at hle
            have := nth_lt' hnth
            omega
        · rintro σ H12 ⟨y2, w5, w7, w8, w9, w10, w11, rfl, g17⟩
          exact ⟨_, _, _, _, _, _, _, _, _, _, rfl, g16.trans g17⟩
  · rintro σ H2 ⟨y2, y3, y4, y5, y6, y7, y8, y9, y10, y11, rfl, g2⟩
    exact q _

end
theorem all_mk {l : PySem.W.OpenLaw} {w : World} {K : PySem.W.Frag} {h : Heap} {mg : Str → Option Value} {fa : Addr} (X : K.In h) (G : h.Ns mainGlobals mg) (hfa : mg "law" = some (.ref fa))
    {f0 : Addr} {od0 an0 : Option Addr} {sl0 : Array (Option Value)} {oc0 kV0 dc0 pm0 cd0 ct0 : Value}
    {f1 : Addr} {od1 an1 : Option Addr} {sl1 : Array (Option Value)} {oc1 kV1 dc1 pm1 cd1 ct1 : Value}
    {f2 : Addr} {od2 an2 : Option Addr} {sl2 : Array (Option Value)} {oc2 kV2 dc2 pm2 cd2 ct2 : Value}
    {f3 : Addr} {od3 an3 : Option Addr} {sl3 : Array (Option Value)} {oc3 kV3 dc3 pm3 cd3 ct3 : Value}
    {f4 : Addr} {od4 an4 : Option Addr} {sl4 : Array (Option Value)} {oc4 kV4 dc4 pm4 cd4 ct4 : Value}
    {f5 : Addr} {od5 an5 : Option Addr} {sl5 : Array (Option Value)} {oc5 kV5 dc5 pm5 cd5 ct5 : Value}
    {f6 : Addr} {od6 an6 : Option Addr} {sl6 : Array (Option Value)} {oc6 kV6 dc6 pm6 cd6 ct6 : Value}
    {f7 : Addr} {od7 an7 : Option Addr} {sl7 : Array (Option Value)} {oc7 kV7 dc7 pm7 cd7 ct7 : Value}
    {f8 : Addr} {od8 an8 : Option Addr} {sl8 : Array (Option Value)} {oc8 kV8 dc8 pm8 cd8 ct8 : Value}
    {f9 : Addr} {od9 an9 : Option Addr} {sl9 : Array (Option Value)} {oc9 kV9 dc9 pm9 cd9 ct9 : Value}
    {f10 : Addr} {od10 an10 : Option Addr} {sl10 : Array (Option Value)} {oc10 kV10 dc10 pm10 cd10 ct10 : Value}
    {f11 : Addr} {od11 an11 : Option Addr} {sl11 : Array (Option Value)} {oc11 kV11 dc11 pm11 cd11 ct11 : Value}
    {f12 : Addr} {od12 an12 : Option Addr} {sl12 : Array (Option Value)} {oc12 kV12 dc12 pm12 cd12 ct12 : Value}
    {f13 : Addr} {od13 an13 : Option Addr} {sl13 : Array (Option Value)} {oc13 kV13 dc13 pm13 cd13 ct13 : Value}
    {f14 : Addr} {od14 an14 : Option Addr} {sl14 : Array (Option Value)} {oc14 kV14 dc14 pm14 cd14 ct14 : Value}
    {f15 : Addr} {od15 an15 : Option Addr} {sl15 : Array (Option Value)} {oc15 kV15 dc15 pm15 cd15 ct15 : Value}
    {f16 : Addr} {od16 an16 : Option Addr} {sl16 : Array (Option Value)} {oc16 kV16 dc16 pm16 cd16 ct16 : Value}
    {f17 : Addr} {od17 an17 : Option Addr} {sl17 : Array (Option Value)} {oc17 kV17 dc17 pm17 cd17 ct17 : Value}
    {f18 : Addr} {od18 an18 : Option Addr} {sl18 : Array (Option Value)} {oc18 kV18 dc18 pm18 cd18 ct18 : Value}
    {f19 : Addr} {od19 an19 : Option Addr} {sl19 : Array (Option Value)} {oc19 kV19 dc19 pm19 cd19 ct19 : Value}
    {f20 : Addr} {od20 an20 : Option Addr} {sl20 : Array (Option Value)} {oc20 kV20 dc20 pm20 cd20 ct20 : Value}
    {f21 : Addr} {od21 an21 : Option Addr} {sl21 : Array (Option Value)} {oc21 kV21 dc21 pm21 cd21 ct21 : Value}
    {f22 : Addr} {od22 an22 : Option Addr} {sl22 : Array (Option Value)} {oc22 kV22 dc22 pm22 cd22 ct22 : Value}
    {f23 : Addr} {od23 an23 : Option Addr} {sl23 : Array (Option Value)} {oc23 kV23 dc23 pm23 cd23 ct23 : Value}
    {f24 : Addr} {od24 an24 : Option Addr} {sl24 : Array (Option Value)} {oc24 kV24 dc24 pm24 cd24 ct24 : Value}
    {f25 : Addr} {od25 an25 : Option Addr} {sl25 : Array (Option Value)} {oc25 kV25 dc25 pm25 cd25 ct25 : Value}
    {f26 : Addr} {od26 an26 : Option Addr} {sl26 : Array (Option Value)} {oc26 kV26 dc26 pm26 cd26 ct26 : Value}
    {f27 : Addr} {od27 an27 : Option Addr} {sl27 : Array (Option Value)} {oc27 kV27 dc27 pm27 cd27 ct27 : Value}
    {f28 : Addr} {od28 an28 : Option Addr} {sl28 : Array (Option Value)} {oc28 kV28 dc28 pm28 cd28 ct28 : Value}
    {f29 : Addr} {od29 an29 : Option Addr} {sl29 : Array (Option Value)} {oc29 kV29 dc29 pm29 cd29 ct29 : Value}
    {f30 : Addr} {od30 an30 : Option Addr} {sl30 : Array (Option Value)} {oc30 kV30 dc30 pm30 cd30 ct30 : Value}
    {f31 : Addr} {od31 an31 : Option Addr} {sl31 : Array (Option Value)} {oc31 kV31 dc31 pm31 cd31 ct31 : Value}
    {t_ALPHABET : Tok}
    {t_LONGEST_WORD : Tok}
    {t_MOST_LETTERS : Tok}
    {t_MOST_PIECES : Tok}
    {t_TWO_WORDS : Tok}
    (a0 : PySem.W.nsIn K mainGlobals "is_row" = some (some (.ref f0))) (l0 : K.lookup f0 = some ⟨oc0, od0, .func (PySem.W.fnOf "is_row" "is_row" (defArgs s_is_row) (defBody s_is_row) (defScope s_is_row) .none kV0 dc0 pm0 an0 cd0 ct0), sl0⟩) (c0 : PySem.W.codeIn K cd0 "is_row" = true) (k0 : PySem.W.keepIn K (.ref f0) = true)
    (a1 : PySem.W.nsIn K mainGlobals "is_whole" = some (some (.ref f1))) (l1 : K.lookup f1 = some ⟨oc1, od1, .func (PySem.W.fnOf "is_whole" "is_whole" (defArgs s_is_whole) (defBody s_is_whole) (defScope s_is_whole) .none kV1 dc1 pm1 an1 cd1 ct1), sl1⟩) (c1 : PySem.W.codeIn K cd1 "is_whole" = true) (k1 : PySem.W.keepIn K (.ref f1) = true)
    (a2 : PySem.W.nsIn K mainGlobals "is_within" = some (some (.ref f2))) (l2 : K.lookup f2 = some ⟨oc2, od2, .func (PySem.W.fnOf "is_within" "is_within" (defArgs s_is_within) (defBody s_is_within) (defScope s_is_within) .none kV2 dc2 pm2 an2 cd2 ct2), sl2⟩) (c2 : PySem.W.codeIn K cd2 "is_within" = true) (k2 : PySem.W.keepIn K (.ref f2) = true)
    (a3 : PySem.W.nsIn K mainGlobals "is_plain" = some (some (.ref f3))) (l3 : K.lookup f3 = some ⟨oc3, od3, .func (PySem.W.fnOf "is_plain" "is_plain" (defArgs s_is_plain) (defBody s_is_plain) (defScope s_is_plain) .none kV3 dc3 pm3 an3 cd3 ct3), sl3⟩) (c3 : PySem.W.codeIn K cd3 "is_plain" = true) (k3 : PySem.W.keepIn K (.ref f3) = true)
    (a4 : PySem.W.nsIn K mainGlobals "is_letter" = some (some (.ref f4))) (l4 : K.lookup f4 = some ⟨oc4, od4, .func (PySem.W.fnOf "is_letter" "is_letter" (defArgs s_is_letter) (defBody s_is_letter) (defScope s_is_letter) .none kV4 dc4 pm4 an4 cd4 ct4), sl4⟩) (c4 : PySem.W.codeIn K cd4 "is_letter" = true) (k4 : PySem.W.keepIn K (.ref f4) = true)
    (a5 : PySem.W.nsIn K mainGlobals "is_clip" = some (some (.ref f5))) (l5 : K.lookup f5 = some ⟨oc5, od5, .func (PySem.W.fnOf "is_clip" "is_clip" (defArgs s_is_clip) (defBody s_is_clip) (defScope s_is_clip) .none kV5 dc5 pm5 an5 cd5 ct5), sl5⟩) (c5 : PySem.W.codeIn K cd5 "is_clip" = true) (k5 : PySem.W.keepIn K (.ref f5) = true)
    (a6 : PySem.W.nsIn K mainGlobals "is_word" = some (some (.ref f6))) (l6 : K.lookup f6 = some ⟨oc6, od6, .func (PySem.W.fnOf "is_word" "is_word" (defArgs s_is_word) (defBody s_is_word) (defScope s_is_word) .none kV6 dc6 pm6 an6 cd6 ct6), sl6⟩) (c6 : PySem.W.codeIn K cd6 "is_word" = true) (k6 : PySem.W.keepIn K (.ref f6) = true)
    (a7 : PySem.W.nsIn K mainGlobals "is_piece" = some (some (.ref f7))) (l7 : K.lookup f7 = some ⟨oc7, od7, .func (PySem.W.fnOf "is_piece" "is_piece" (defArgs s_is_piece) (defBody s_is_piece) (defScope s_is_piece) .none kV7 dc7 pm7 an7 cd7 ct7), sl7⟩) (c7 : PySem.W.codeIn K cd7 "is_piece" = true) (k7 : PySem.W.keepIn K (.ref f7) = true)
    (a8 : PySem.W.nsIn K mainGlobals "is_text" = some (some (.ref f8))) (l8 : K.lookup f8 = some ⟨oc8, od8, .func (PySem.W.fnOf "is_text" "is_text" (defArgs s_is_text) (defBody s_is_text) (defScope s_is_text) .none kV8 dc8 pm8 an8 cd8 ct8), sl8⟩) (c8 : PySem.W.codeIn K cd8 "is_text" = true) (k8 : PySem.W.keepIn K (.ref f8) = true)
    (a9 : PySem.W.nsIn K mainGlobals "check_text" = some (some (.ref f9))) (l9 : K.lookup f9 = some ⟨oc9, od9, .func (PySem.W.fnOf "check_text" "check_text" (defArgs s_check_text) (defBody s_check_text) (defScope s_check_text) .none kV9 dc9 pm9 an9 cd9 ct9), sl9⟩) (c9 : PySem.W.codeIn K cd9 "check_text" = true) (k9 : PySem.W.keepIn K (.ref f9) = true)
    (a10 : PySem.W.nsIn K mainGlobals "check_letter" = some (some (.ref f10))) (l10 : K.lookup f10 = some ⟨oc10, od10, .func (PySem.W.fnOf "check_letter" "check_letter" (defArgs s_check_letter) (defBody s_check_letter) (defScope s_check_letter) .none kV10 dc10 pm10 an10 cd10 ct10), sl10⟩) (c10 : PySem.W.codeIn K cd10 "check_letter" = true) (k10 : PySem.W.keepIn K (.ref f10) = true)
    (a11 : PySem.W.nsIn K mainGlobals "spans_of" = some (some (.ref f11))) (l11 : K.lookup f11 = some ⟨oc11, od11, .func (PySem.W.fnOf "spans_of" "spans_of" (defArgs s_spans_of) (defBody s_spans_of) (defScope s_spans_of) .none kV11 dc11 pm11 an11 cd11 ct11), sl11⟩) (c11 : PySem.W.codeIn K cd11 "spans_of" = true) (k11 : PySem.W.keepIn K (.ref f11) = true)
    (a12 : PySem.W.nsIn K mainGlobals "end_of" = some (some (.ref f12))) (l12 : K.lookup f12 = some ⟨oc12, od12, .func (PySem.W.fnOf "end_of" "end_of" (defArgs s_end_of) (defBody s_end_of) (defScope s_end_of) .none kV12 dc12 pm12 an12 cd12 ct12), sl12⟩) (c12 : PySem.W.codeIn K cd12 "end_of" = true) (k12 : PySem.W.keepIn K (.ref f12) = true)
    (a13 : PySem.W.nsIn K mainGlobals "stretch" = some (some (.ref f13))) (l13 : K.lookup f13 = some ⟨oc13, od13, .func (PySem.W.fnOf "stretch" "stretch" (defArgs s_stretch) (defBody s_stretch) (defScope s_stretch) .none kV13 dc13 pm13 an13 cd13 ct13), sl13⟩) (c13 : PySem.W.codeIn K cd13 "stretch" = true) (k13 : PySem.W.keepIn K (.ref f13) = true)
    (a14 : PySem.W.nsIn K mainGlobals "look" = some (some (.ref f14))) (l14 : K.lookup f14 = some ⟨oc14, od14, .func (PySem.W.fnOf "look" "look" (defArgs s_look) (defBody s_look) (defScope s_look) .none kV14 dc14 pm14 an14 cd14 ct14), sl14⟩) (c14 : PySem.W.codeIn K cd14 "look" = true) (k14 : PySem.W.keepIn K (.ref f14) = true)
    (a15 : PySem.W.nsIn K mainGlobals "among" = some (some (.ref f15))) (l15 : K.lookup f15 = some ⟨oc15, od15, .func (PySem.W.fnOf "among" "among" (defArgs s_among) (defBody s_among) (defScope s_among) .none kV15 dc15 pm15 an15 cd15 ct15), sl15⟩) (c15 : PySem.W.codeIn K cd15 "among" = true) (k15 : PySem.W.keepIn K (.ref f15) = true)
    (a16 : PySem.W.nsIn K mainGlobals "nth_again" = some (some (.ref f16))) (l16 : K.lookup f16 = some ⟨oc16, od16, .func (PySem.W.fnOf "nth_again" "nth_again" (defArgs s_nth_again) (defBody s_nth_again) (defScope s_nth_again) .none kV16 dc16 pm16 an16 cd16 ct16), sl16⟩) (c16 : PySem.W.codeIn K cd16 "nth_again" = true) (k16 : PySem.W.keepIn K (.ref f16) = true)
    (a17 : PySem.W.nsIn K mainGlobals "split_at" = some (some (.ref f17))) (l17 : K.lookup f17 = some ⟨oc17, od17, .func (PySem.W.fnOf "split_at" "split_at" (defArgs s_split_at) (defBody s_split_at) (defScope s_split_at) .none kV17 dc17 pm17 an17 cd17 ct17), sl17⟩) (c17 : PySem.W.codeIn K cd17 "split_at" = true) (k17 : PySem.W.keepIn K (.ref f17) = true)
    (a18 : PySem.W.nsIn K mainGlobals "length" = some (some (.ref f18))) (l18 : K.lookup f18 = some ⟨oc18, od18, .func (PySem.W.fnOf "length" "length" (defArgs s_length) (defBody s_length) (defScope s_length) .none kV18 dc18 pm18 an18 cd18 ct18), sl18⟩) (c18 : PySem.W.codeIn K cd18 "length" = true) (k18 : PySem.W.keepIn K (.ref f18) = true)
    (a19 : PySem.W.nsIn K mainGlobals "letter" = some (some (.ref f19))) (l19 : K.lookup f19 = some ⟨oc19, od19, .func (PySem.W.fnOf "letter" "letter" (defArgs s_letter) (defBody s_letter) (defScope s_letter) .none kV19 dc19 pm19 an19 cd19 ct19), sl19⟩) (c19 : PySem.W.codeIn K cd19 "letter" = true) (k19 : PySem.W.keepIn K (.ref f19) = true)
    (a20 : PySem.W.nsIn K mainGlobals "count" = some (some (.ref f20))) (l20 : K.lookup f20 = some ⟨oc20, od20, .func (PySem.W.fnOf "count" "count" (defArgs s_count) (defBody s_count) (defScope s_count) .none kV20 dc20 pm20 an20 cd20 ct20), sl20⟩) (c20 : PySem.W.codeIn K cd20 "count" = true) (k20 : PySem.W.keepIn K (.ref f20) = true)
    (a21 : PySem.W.nsIn K mainGlobals "nth" = some (some (.ref f21))) (l21 : K.lookup f21 = some ⟨oc21, od21, .func (PySem.W.fnOf "nth" "nth" (defArgs s_nth) (defBody s_nth) (defScope s_nth) .none kV21 dc21 pm21 an21 cd21 ct21), sl21⟩) (c21 : PySem.W.codeIn K cd21 "nth" = true) (k21 : PySem.W.keepIn K (.ref f21) = true)
    (a22 : PySem.W.nsIn K mainGlobals "first_unlike" = some (some (.ref f22))) (l22 : K.lookup f22 = some ⟨oc22, od22, .func (PySem.W.fnOf "first_unlike" "first_unlike" (defArgs s_first_unlike) (defBody s_first_unlike) (defScope s_first_unlike) .none kV22 dc22 pm22 an22 cd22 ct22), sl22⟩) (c22 : PySem.W.codeIn K cd22 "first_unlike" = true) (k22 : PySem.W.keepIn K (.ref f22) = true)
    (a23 : PySem.W.nsIn K mainGlobals "_law_spring" = some (some (.ref f23))) (l23 : K.lookup f23 = some ⟨oc23, od23, .func (PySem.W.fnOf "_law_spring" "_law_spring" (defArgs s__law_spring) (defBody s__law_spring) (defScope s__law_spring) .none kV23 dc23 pm23 an23 cd23 ct23), sl23⟩) (c23 : PySem.W.codeIn K cd23 "_law_spring" = true) (k23 : PySem.W.keepIn K (.ref f23) = true)
    (a24 : PySem.W.nsIn K mainGlobals "_law_draw" = some (some (.ref f24))) (l24 : K.lookup f24 = some ⟨oc24, od24, .func (PySem.W.fnOf "_law_draw" "_law_draw" (defArgs s__law_draw) (defBody s__law_draw) (defScope s__law_draw) .none kV24 dc24 pm24 an24 cd24 ct24), sl24⟩) (c24 : PySem.W.codeIn K cd24 "_law_draw" = true) (k24 : PySem.W.keepIn K (.ref f24) = true)
    (a25 : PySem.W.nsIn K mainGlobals "_law_word" = some (some (.ref f25))) (l25 : K.lookup f25 = some ⟨oc25, od25, .func (PySem.W.fnOf "_law_word" "_law_word" (defArgs s__law_word) (defBody s__law_word) (defScope s__law_word) .none kV25 dc25 pm25 an25 cd25 ct25), sl25⟩) (c25 : PySem.W.codeIn K cd25 "_law_word" = true) (k25 : PySem.W.keepIn K (.ref f25) = true)
    (a26 : PySem.W.nsIn K mainGlobals "_law_text" = some (some (.ref f26))) (l26 : K.lookup f26 = some ⟨oc26, od26, .func (PySem.W.fnOf "_law_text" "_law_text" (defArgs s__law_text) (defBody s__law_text) (defScope s__law_text) .none kV26 dc26 pm26 an26 cd26 ct26), sl26⟩) (c26 : PySem.W.codeIn K cd26 "_law_text" = true) (k26 : PySem.W.keepIn K (.ref f26) = true)
    (a27 : PySem.W.nsIn K mainGlobals "_law_otherwise" = some (some (.ref f27))) (l27 : K.lookup f27 = some ⟨oc27, od27, .func (PySem.W.fnOf "_law_otherwise" "_law_otherwise" (defArgs s__law_otherwise) (defBody s__law_otherwise) (defScope s__law_otherwise) .none kV27 dc27 pm27 an27 cd27 ct27), sl27⟩) (c27 : PySem.W.codeIn K cd27 "_law_otherwise" = true) (k27 : PySem.W.keepIn K (.ref f27) = true)
    (a28 : PySem.W.nsIn K mainGlobals "_law_bent" = some (some (.ref f28))) (l28 : K.lookup f28 = some ⟨oc28, od28, .func (PySem.W.fnOf "_law_bent" "_law_bent" (defArgs s__law_bent) (defBody s__law_bent) (defScope s__law_bent) .none kV28 dc28 pm28 an28 cd28 ct28), sl28⟩) (c28 : PySem.W.codeIn K cd28 "_law_bent" = true) (k28 : PySem.W.keepIn K (.ref f28) = true)
    (a29 : PySem.W.nsIn K mainGlobals "_law_long_right" = some (some (.ref f29))) (l29 : K.lookup f29 = some ⟨oc29, od29, .func (PySem.W.fnOf "_law_long_right" "_law_long_right" (defArgs s__law_long_right) (defBody s__law_long_right) (defScope s__law_long_right) .none kV29 dc29 pm29 an29 cd29 ct29), sl29⟩) (c29 : PySem.W.codeIn K cd29 "_law_long_right" = true) (k29 : PySem.W.keepIn K (.ref f29) = true)
    (a30 : PySem.W.nsIn K mainGlobals "_law_ends_right" = some (some (.ref f30))) (l30 : K.lookup f30 = some ⟨oc30, od30, .func (PySem.W.fnOf "_law_ends_right" "_law_ends_right" (defArgs s__law_ends_right) (defBody s__law_ends_right) (defScope s__law_ends_right) .none kV30 dc30 pm30 an30 cd30 ct30), sl30⟩) (c30 : PySem.W.codeIn K cd30 "_law_ends_right" = true) (k30 : PySem.W.keepIn K (.ref f30) = true)
    (a31 : PySem.W.nsIn K mainGlobals "law" = some (some (.ref f31))) (l31 : K.lookup f31 = some ⟨oc31, od31, .func (PySem.W.fnOf "law" "law" (defArgs s_law) (defBody s_law) (defScope s_law) .none kV31 dc31 pm31 an31 cd31 ct31), sl31⟩) (c31 : PySem.W.codeIn K cd31 "law" = true) (k31 : PySem.W.keepIn K (.ref f31) = true)
    (z_abs : PySem.W.nsIn K mainGlobals "abs" = some none)
    (z_divmod : PySem.W.nsIn K mainGlobals "divmod" = some none)
    (z_int : PySem.W.nsIn K mainGlobals "int" = some none)
    (z_len : PySem.W.nsIn K mainGlobals "len" = some none)
    (z_list : PySem.W.nsIn K mainGlobals "list" = some none)
    (z_max : PySem.W.nsIn K mainGlobals "max" = some none)
    (z_min : PySem.W.nsIn K mainGlobals "min" = some none)
    (z_range : PySem.W.nsIn K mainGlobals "range" = some none)
    (z_sorted : PySem.W.nsIn K mainGlobals "sorted" = some none)
    (z_str : PySem.W.nsIn K mainGlobals "str" = some none)
    (z_tuple : PySem.W.nsIn K mainGlobals "tuple" = some none)
    (z_type : PySem.W.nsIn K mainGlobals "type" = some none)
    (v_ALPHABET : PySem.W.nsIn K mainGlobals "ALPHABET" = some (some (.str "abcdefghijklmnopqrstuvwxyz" t_ALPHABET)))
    (v_LONGEST_WORD : PySem.W.nsIn K mainGlobals "LONGEST_WORD" = some (some (.int 60 t_LONGEST_WORD)))
    (v_MOST_LETTERS : PySem.W.nsIn K mainGlobals "MOST_LETTERS" = some (some (.int 1000000000000000000000000000000 t_MOST_LETTERS)))
    (v_MOST_PIECES : PySem.W.nsIn K mainGlobals "MOST_PIECES" = some (some (.int 40 t_MOST_PIECES)))
    (v_TWO_WORDS : PySem.W.nsIn K mainGlobals "TWO_WORDS" = some (some (.int 120 t_TWO_WORDS))) :
    ∃ fd : FuncData, (∀ (s : Shared) (v : Value), BindsTo s fd ⟨[v], []⟩ [("script", v)]) ∧ ∀ base : Heap, K.In base → base.Ns mainGlobals mg → FnOk l.prog w K mg base L2.CX0 9 fa fd ["script"] (spLaw K) := by
  have e := hfa.symm.trans (PySem.W.mg_of X G a31)
  cases e
  have F0 := fun_mk (st := s_is_row) l0 c0 k0
  have F1 := fun_mk (st := s_is_whole) l1 c1 k1
  have F2 := fun_mk (st := s_is_within) l2 c2 k2
  have F3 := fun_mk (st := s_is_plain) l3 c3 k3
  have F4 := fun_mk (st := s_is_letter) l4 c4 k4
  have F5 := fun_mk (st := s_is_clip) l5 c5 k5
  have F6 := fun_mk (st := s_is_word) l6 c6 k6
  have F7 := fun_mk (st := s_is_piece) l7 c7 k7
  have F8 := fun_mk (st := s_is_text) l8 c8 k8
  have F9 := fun_mk (st := s_check_text) l9 c9 k9
  have F10 := fun_mk (st := s_check_letter) l10 c10 k10
  have F11 := fun_mk (st := s_spans_of) l11 c11 k11
  have F12 := fun_mk (st := s_end_of) l12 c12 k12
  have F13 := fun_mk (st := s_stretch) l13 c13 k13
  have F14 := fun_mk (st := s_look) l14 c14 k14
  have F15 := fun_mk (st := s_among) l15 c15 k15
  have F16 := fun_mk (st := s_nth_again) l16 c16 k16
  have F17 := fun_mk (st := s_split_at) l17 c17 k17
  have F18 := fun_mk (st := s_length) l18 c18 k18
  have F19 := fun_mk (st := s_letter) l19 c19 k19
  have F20 := fun_mk (st := s_count) l20 c20 k20
  have F21 := fun_mk (st := s_nth) l21 c21 k21
  have F22 := fun_mk (st := s_first_unlike) l22 c22 k22
  have F23 := fun_mk (st := s__law_spring) l23 c23 k23
  have F24 := fun_mk (st := s__law_draw) l24 c24 k24
  have F25 := fun_mk (st := s__law_word) l25 c25 k25
  have F26 := fun_mk (st := s__law_text) l26 c26 k26
  have F27 := fun_mk (st := s__law_otherwise) l27 c27 k27
  have F28 := fun_mk (st := s__law_bent) l28 c28 k28
  have F29 := fun_mk (st := s__law_long_right) l29 c29 k29
  have F30 := fun_mk (st := s__law_ends_right) l30 c30 k30
  have F31 := fun_mk (st := s_law) l31 c31 k31
  let T : Txt K mg := ⟨⟨f0, _, F0, PySem.W.mg_of X G a0, F0.binds (ps := ["thing"]) fun _ _ _ _ _ _ us hl => match us, hl with | [_], _ => rfl⟩,
    ⟨f1, _, F1, PySem.W.mg_of X G a1, F1.binds (ps := ["thing", "low"]) fun _ _ _ _ _ _ us hl => match us, hl with | [_, _], _ => rfl⟩,
    ⟨f2, _, F2, PySem.W.mg_of X G a2, F2.binds (ps := ["thing", "low", "high"]) fun _ _ _ _ _ _ us hl => match us, hl with | [_, _, _], _ => rfl⟩,
    ⟨f3, _, F3, PySem.W.mg_of X G a3, F3.binds (ps := ["thing"]) fun _ _ _ _ _ _ us hl => match us, hl with | [_], _ => rfl⟩,
    ⟨f4, _, F4, PySem.W.mg_of X G a4, F4.binds (ps := ["thing"]) fun _ _ _ _ _ _ us hl => match us, hl with | [_], _ => rfl⟩,
    ⟨f5, _, F5, PySem.W.mg_of X G a5, F5.binds (ps := ["thing"]) fun _ _ _ _ _ _ us hl => match us, hl with | [_], _ => rfl⟩,
    ⟨f6, _, F6, PySem.W.mg_of X G a6, F6.binds (ps := ["thing"]) fun _ _ _ _ _ _ us hl => match us, hl with | [_], _ => rfl⟩,
    ⟨f7, _, F7, PySem.W.mg_of X G a7, F7.binds (ps := ["thing"]) fun _ _ _ _ _ _ us hl => match us, hl with | [_], _ => rfl⟩,
    ⟨f8, _, F8, PySem.W.mg_of X G a8, F8.binds (ps := ["thing"]) fun _ _ _ _ _ _ us hl => match us, hl with | [_], _ => rfl⟩,
    ⟨f9, _, F9, PySem.W.mg_of X G a9, F9.binds (ps := ["thing"]) fun _ _ _ _ _ _ us hl => match us, hl with | [_], _ => rfl⟩,
    ⟨f10, _, F10, PySem.W.mg_of X G a10, F10.binds (ps := ["thing"]) fun _ _ _ _ _ _ us hl => match us, hl with | [_], _ => rfl⟩,
    ⟨f11, _, F11, PySem.W.mg_of X G a11, F11.binds (ps := ["text"]) fun _ _ _ _ _ _ us hl => match us, hl with | [_], _ => rfl⟩,
    ⟨f12, _, F12, PySem.W.mg_of X G a12, F12.binds (ps := ["spans"]) fun _ _ _ _ _ _ us hl => match us, hl with | [_], _ => rfl⟩,
    ⟨f13, _, F13, PySem.W.mg_of X G a13, F13.binds (ps := ["word", "at", "many"]) fun _ _ _ _ _ _ us hl => match us, hl with | [_, _, _], _ => rfl⟩,
    ⟨f14, _, F14, PySem.W.mg_of X G a14, F14.binds (ps := ["spans", "place", "many"]) fun _ _ _ _ _ _ us hl => match us, hl with | [_, _, _], _ => rfl⟩,
    ⟨f15, _, F15, PySem.W.mg_of X G a15, F15.binds (ps := ["word", "sign", "many"]) fun _ _ _ _ _ _ us hl => match us, hl with | [_, _, _], _ => rfl⟩,
    ⟨f16, _, F16, PySem.W.mg_of X G a16, F16.binds (ps := ["word", "sign", "number"]) fun _ _ _ _ _ _ us hl => match us, hl with | [_, _, _], _ => rfl⟩,
    ⟨f17, _, F17, PySem.W.mg_of X G a17, F17.binds (ps := ["one", "other"]) fun _ _ _ _ _ _ us hl => match us, hl with | [_, _], _ => rfl⟩,
    ⟨f18, _, F18, PySem.W.mg_of X G a18, F18.binds (ps := ["text"]) fun _ _ _ _ _ _ us hl => match us, hl with | [_], _ => rfl⟩,
    ⟨f19, _, F19, PySem.W.mg_of X G a19, F19.binds (ps := ["text", "place"]) fun _ _ _ _ _ _ us hl => match us, hl with | [_, _], _ => rfl⟩,
    ⟨f20, _, F20, PySem.W.mg_of X G a20, F20.binds (ps := ["text", "sign", "many"]) fun _ _ _ _ _ _ us hl => match us, hl with | [_, _, _], _ => rfl⟩,
    ⟨f21, _, F21, PySem.W.mg_of X G a21, F21.binds (ps := ["text", "sign", "number"]) fun _ _ _ _ _ _ us hl => match us, hl with | [_, _, _], _ => rfl⟩,
    ⟨f22, _, F22, PySem.W.mg_of X G a22, F22.binds (ps := ["text", "other"]) fun _ _ _ _ _ _ us hl => match us, hl with | [_, _], _ => rfl⟩,
    ⟨f23, _, F23, PySem.W.mg_of X G a23, F23.binds (ps := ["script"]) fun _ _ _ _ _ _ us hl => match us, hl with | [_], _ => rfl⟩,
    ⟨f24, _, F24, PySem.W.mg_of X G a24, F24.binds (ps := ["spring", "many"]) fun _ _ _ _ _ _ us hl => match us, hl with | [_, _], _ => rfl⟩,
    ⟨f25, _, F25, PySem.W.mg_of X G a25, F25.binds (ps := ["spring", "most"]) fun _ _ _ _ _ _ us hl => match us, hl with | [_, _], _ => rfl⟩,
    ⟨f26, _, F26, PySem.W.mg_of X G a26, F26.binds (ps := ["spring", "most", "wide", "times"]) fun _ _ _ _ _ _ us hl => match us, hl with | [_, _, _, _], _ => rfl⟩,
    ⟨f27, _, F27, PySem.W.mg_of X G a27, F27.binds (ps := ["spring", "piece"]) fun _ _ _ _ _ _ us hl => match us, hl with | [_, _], _ => rfl⟩,
    ⟨f28, _, F28, PySem.W.mg_of X G a28, F28.binds (ps := ["text", "place"]) fun _ _ _ _ _ _ us hl => match us, hl with | [_, _], _ => rfl⟩,
    ⟨f29, _, F29, PySem.W.mg_of X G a29, F29.binds (ps := ["spring"]) fun _ _ _ _ _ _ us hl => match us, hl with | [_], _ => rfl⟩,
    ⟨f30, _, F30, PySem.W.mg_of X G a30, F30.binds (ps := ["spring", "text"]) fun _ _ _ _ _ _ us hl => match us, hl with | [_, _], _ => rfl⟩,
    ⟨fa, _, F31, PySem.W.mg_of X G a31, F31.binds (ps := ["script"]) fun _ _ _ _ _ _ us hl => match us, hl with | [_], _ => rfl⟩,
    PySem.W.mg_none_of X G z_abs,
    PySem.W.mg_none_of X G z_divmod,
    PySem.W.mg_none_of X G z_int,
    PySem.W.mg_none_of X G z_len,
    PySem.W.mg_none_of X G z_list,
    PySem.W.mg_none_of X G z_max,
    PySem.W.mg_none_of X G z_min,
    PySem.W.mg_none_of X G z_range,
    PySem.W.mg_none_of X G z_sorted,
    PySem.W.mg_none_of X G z_str,
    PySem.W.mg_none_of X G z_tuple,
    PySem.W.mg_none_of X G z_type,
    ⟨_, PySem.W.mg_of X G v_ALPHABET⟩,
    ⟨_, PySem.W.mg_of X G v_LONGEST_WORD⟩,
    ⟨_, PySem.W.mg_of X G v_MOST_LETTERS⟩,
    ⟨_, PySem.W.mg_of X G v_MOST_PIECES⟩,
    ⟨_, PySem.W.mg_of X G v_TWO_WORDS⟩⟩
  exact ⟨T.f_law.fd, fun s v => .of_eq rfl, fun base _ _ => ok_law T⟩
end BK
open PySem PySem.W PyProof.Rows
set_option maxRecDepth 100000 in
set_option maxHeartbeats 0 in
theorem PySem.Challenge.cw_blindkeys_k06_whole_texts_told_otherwise_holds : PySem.Challenge.rw_blindkeys_k06_whole_texts_told_otherwise.Holds := by
  w_on; o_law; k_head; (case hw => w_witness2)
  k_fill
  refine L2.walk_of (l := PySem.Challenge.rw_blindkeys_k06_whole_texts_told_otherwise) (n := 63) (k := 9) (x := "script") (CX := fun _ => L2.CX0) (sp := fun w => BK.spLaw _) rfl (by decide) rfl ⟨rfl, by decide, by decide⟩ (fun w h Y => PySem.W.kIn_of Y) ?F (fun _ _ a ns hl _ hS => ⟨a, ns, rfl, hS, hl, fun _ => rfl⟩) (fun _ _ _ _ _ h => h)
  case F =>
    intro w mg fa h KX G hmg
    refine' BK.all_mk KX G hmg ?a0 ?l0 ?c0 ?k0 ?a1 ?l1 ?c1 ?k1 ?a2 ?l2 ?c2 ?k2 ?a3 ?l3 ?c3 ?k3 ?a4 ?l4 ?c4 ?k4 ?a5 ?l5 ?c5 ?k5 ?a6 ?l6 ?c6 ?k6 ?a7 ?l7 ?c7 ?k7 ?a8 ?l8 ?c8 ?k8 ?a9 ?l9 ?c9 ?k9 ?a10 ?l10 ?c10 ?k10 ?a11 ?l11 ?c11 ?k11 ?a12 ?l12 ?c12 ?k12 ?a13 ?l13 ?c13 ?k13 ?a14 ?l14 ?c14 ?k14 ?a15 ?l15 ?c15 ?k15 ?a16 ?l16 ?c16 ?k16 ?a17 ?l17 ?c17 ?k17 ?a18 ?l18 ?c18 ?k18 ?a19 ?l19 ?c19 ?k19 ?a20 ?l20 ?c20 ?k20 ?a21 ?l21 ?c21 ?k21 ?a22 ?l22 ?c22 ?k22 ?a23 ?l23 ?c23 ?k23 ?a24 ?l24 ?c24 ?k24 ?a25 ?l25 ?c25 ?k25 ?a26 ?l26 ?c26 ?k26 ?a27 ?l27 ?c27 ?k27 ?a28 ?l28 ?c28 ?k28 ?a29 ?l29 ?c29 ?k29 ?a30 ?l30 ?c30 ?k30 ?a31 ?l31 ?c31 ?k31 ?z_abs ?z_divmod ?z_int ?z_len ?z_list ?z_max ?z_min ?z_range ?z_sorted ?z_str ?z_tuple ?z_type ?v_ALPHABET ?v_LONGEST_WORD ?v_MOST_LETTERS ?v_MOST_PIECES ?v_TWO_WORDS
    (case a0 => k_is)
    (case l0 => k_is)
    (case c0 => k_is)
    (case k0 => k_is)
    (case a1 => k_is)
    (case l1 => k_is)
    (case c1 => k_is)
    (case k1 => k_is)
    (case a2 => k_is)
    (case l2 => k_is)
    (case c2 => k_is)
    (case k2 => k_is)
    (case a3 => k_is)
    (case l3 => k_is)
    (case c3 => k_is)
    (case k3 => k_is)
    (case a4 => k_is)
    (case l4 => k_is)
    (case c4 => k_is)
    (case k4 => k_is)
    (case a5 => k_is)
    (case l5 => k_is)
    (case c5 => k_is)
    (case k5 => k_is)
    (case a6 => k_is)
    (case l6 => k_is)
    (case c6 => k_is)
    (case k6 => k_is)
    (case a7 => k_is)
    (case l7 => k_is)
    (case c7 => k_is)
    (case k7 => k_is)
    (case a8 => k_is)
    (case l8 => k_is)
    (case c8 => k_is)
    (case k8 => k_is)
    (case a9 => k_is)
    (case l9 => k_is)
    (case c9 => k_is)
    (case k9 => k_is)
    (case a10 => k_is)
    (case l10 => k_is)
    (case c10 => k_is)
    (case k10 => k_is)
    (case a11 => k_is)
    (case l11 => k_is)
    (case c11 => k_is)
    (case k11 => k_is)
    (case a12 => k_is)
    (case l12 => k_is)
    (case c12 => k_is)
    (case k12 => k_is)
    (case a13 => k_is)
    (case l13 => k_is)
    (case c13 => k_is)
    (case k13 => k_is)
    (case a14 => k_is)
    (case l14 => k_is)
    (case c14 => k_is)
    (case k14 => k_is)
    (case a15 => k_is)
    (case l15 => k_is)
    (case c15 => k_is)
    (case k15 => k_is)
    (case a16 => k_is)
    (case l16 => k_is)
    (case c16 => k_is)
    (case k16 => k_is)
    (case a17 => k_is)
    (case l17 => k_is)
    (case c17 => k_is)
    (case k17 => k_is)
    (case a18 => k_is)
    (case l18 => k_is)
    (case c18 => k_is)
    (case k18 => k_is)
    (case a19 => k_is)
    (case l19 => k_is)
    (case c19 => k_is)
    (case k19 => k_is)
    (case a20 => k_is)
    (case l20 => k_is)
    (case c20 => k_is)
    (case k20 => k_is)
    (case a21 => k_is)
    (case l21 => k_is)
    (case c21 => k_is)
    (case k21 => k_is)
    (case a22 => k_is)
    (case l22 => k_is)
    (case c22 => k_is)
    (case k22 => k_is)
    (case a23 => k_is)
    (case l23 => k_is)
    (case c23 => k_is)
    (case k23 => k_is)
    (case a24 => k_is)
    (case l24 => k_is)
    (case c24 => k_is)
    (case k24 => k_is)
    (case a25 => k_is)
    (case l25 => k_is)
    (case c25 => k_is)
    (case k25 => k_is)
    (case a26 => k_is)
    (case l26 => k_is)
    (case c26 => k_is)
    (case k26 => k_is)
    (case a27 => k_is)
    (case l27 => k_is)
    (case c27 => k_is)
    (case k27 => k_is)
    (case a28 => k_is)
    (case l28 => k_is)
    (case c28 => k_is)
    (case k28 => k_is)
    (case a29 => k_is)
    (case l29 => k_is)
    (case c29 => k_is)
    (case k29 => k_is)
    (case a30 => k_is)
    (case l30 => k_is)
    (case c30 => k_is)
    (case k30 => k_is)
    (case a31 => k_is)
    (case l31 => k_is)
    (case c31 => k_is)
    (case k31 => k_is)
    (case z_abs => k_is)
    (case z_divmod => k_is)
    (case z_int => k_is)
    (case z_len => k_is)
    (case z_list => k_is)
    (case z_max => k_is)
    (case z_min => k_is)
    (case z_range => k_is)
    (case z_sorted => k_is)
    (case z_str => k_is)
    (case z_tuple => k_is)
    (case z_type => k_is)
    (case v_ALPHABET => k_is)
    (case v_LONGEST_WORD => k_is)
    (case v_MOST_LETTERS => k_is)
    (case v_MOST_PIECES => k_is)
    (case v_TWO_WORDS => k_is)
