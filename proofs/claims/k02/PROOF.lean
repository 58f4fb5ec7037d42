import PyProof.Rows.All
import Wide.All
import OpenK.AllK
import Wide.FinOn
import PyProof.TypeEq
import PyProof.Rows.StrMul
import PyProof.LongRange
import HandS.ForMost
import HandS.Wide
import HandS.WideBits
import HandS.More
import HandS.StrMore
import HandS.NoneIn
import HandS.Flow
import HandS.SortInts
import PyProof.ReprRoads
import PyProof.ReprBulk
import HandS.IsInst
import HandS.Codes
import PySem.Challenge.RW_blindkeys_k02_letters_of_texts
set_option Elab.async false
set_option linter.all false
set_option maxRecDepth 100000
set_option maxHeartbeats 4000000
namespace BK
open PySem PySem.Spec PyProof.Rows L2

/-! ### more rules -/
section
variable {A : Around} {s : Shared}
theorem meta_of {n : String} (h : n ∈ ["int", "str", "bool", "NoneType", "list", "tuple", "dict"]) (s' : Shared) : s'.TypeIs (.type n) "type" := by
  simp only [List.mem_cons, List.not_mem_nil, or_false] at h
  rcases h with rfl | rfl | rfl | rfl | rfl | rfl | rfl
  · exact TypeEq.meta_int s'
  · exact TypeEq.meta_str s'
  · exact TypeEq.meta_bool s'
  · exact TypeEq.meta_NoneType s'
  · exact TypeEq.meta_list s'
  · exact TypeEq.meta_tuple s'
  · exact TypeEq.meta_dict s'
theorem eqAt_ty {a b : String} (ha : a ∈ ["int", "str", "bool", "NoneType", "list", "tuple", "dict"]) (hb : b ∈ ["int", "str", "bool", "NoneType", "list", "tuple", "dict"]) : SeqAt.EqAt A s (.type a) (.type b) (decide (a = b)) := fun prog w E Q h => by
  unfold eqBool
  refine wpAny_holding ?_
  by_cases e : a = b
  · subst e
    rw [decide_eq_true rfl] at h
    refine wpAny_ite_split (fun _ => wpAny_bind (wpAny_rule (wpAny_pure h))) (fun hab => absurd (beq_self_eq_true _) hab)
  · rw [decide_eq_false e] at h
    have hne : (Value.type a == Value.type b) = false := beq_eq_false_iff_ne.mpr fun z => e (Value.type.inj z)
    refine wpAny_ite_split (fun hab => absurd hab (by rw [hne]; exact Bool.false_ne_true)) (fun _ => ?_)
    exact wpAny_bind (TypeEq.eq_type_other (meta_of ha) (meta_of hb) hne (wpAny_truthy_bool h))
end
abbrev knownTy : List String := ["int", "str", "bool", "NoneType", "list", "tuple", "dict"]
/-- type(x) in (list, tuple) -/
def rInTy (K : PySem.W.Frag) : R2 := fun x y H Q => ∃ (a : String) (p : Addr) (ns : List String), x = .ty a ∧ y = .ref p ∧ SqT K H p (ns.map V.ty) ∧ a ∈ knownTy ∧ (∀ n ∈ ns, n ∈ knownTy) ∧ Q (.bl (decide (a ∈ ns))) H
theorem vals_ty : ∀ {ns : List String} {us : List Value}, Vals (ns.map V.ty) us → us = ns.map Value.type
  | [], _, .nil => rfl
  | n :: ns, _, .cons r t => by
    have e := vals_ty t
    cases (show _ = Value.type n from r)
    rw [e, List.map_cons]
section
variable {X : Cx}
theorem op_in_ty : OpR X (compareOp .In) (rInTy X.K) := by
  intro pins s σ H x y v u Q I rx ry h
  obtain ⟨a, p, ns, rfl, rfl, hq, ha, hn, q⟩ := h
  cases (show v = Value.type a from rx)
  cases (show u = Value.ref p from ry)
  obtain ⟨its, r, pl, hz⟩ := I.tuple hq
  have e := vals_ty r
  subst e
  refine SeqAt.in_tupleAt (fun y => match y with | .type n => decide (n = a) | _ => false) pl (fun w hw => ?_) ⟨.bl _, H, I, rfl, ?_⟩
  · simp only [List.mem_toArray, List.mem_map] at hw
    obtain ⟨n, hn1, rfl⟩ := hw
    exact eqAt_ty (hn n hn1) ha
  · have e : (((ns.map Value.type).toArray).any (fun y => match y with | .type n => decide (n = a) | _ => false)) = decide (a ∈ ns) := by
      rw [List.any_toArray, List.any_map, Bool.eq_iff_iff, List.any_eq_true, decide_eq_true_iff]
      constructor
      · rintro ⟨n, h1, h2⟩
        have : n = a := of_decide_eq_true h2
        subst this
        exact h1
      · intro h1
        exact ⟨a, h1, decide_eq_true rfl⟩
    rw [e]
    exact q
/-- text * int -/
def rMulS : R2 := fun x y H Q => ∃ z n, x = .str z ∧ y = .int n ∧ MulOk z n ∧ Q (.str (Txt.mul z n)) H
theorem op_mul_str : OpR X (binaryOp .Mult) rMulS := by
  intro pins s σ H x y v u Q I rx ry h
  obtain ⟨z, n, rfl, rfl, ok, q⟩ := h
  obtain ⟨t, rfl⟩ := rx
  obtain ⟨t', rfl⟩ := ry
  exact SB.mul ok fun t2 k => ⟨.str _, H, I.tok _, ⟨_, rfl⟩, q⟩
theorem OpR.or {f : Value → Value → Sem Value} {r r' : R2} (h : OpR X f r) (h' : OpR X f r') : OpR X f (fun x y H Q => r x y H Q ∨ r' x y H Q) := by
  intro pins s σ H x y v u Q I rx ry hh
  rcases hh with hh | hh
  · exact h pins s σ H x y v u Q I rx ry hh
  · exact h' pins s σ H x y v u Q I rx ry hh
theorem pi_or {tg it : PySem.Expr} {w1 w2 : TI} (h1 : PI X tg it w1) (h2 : PI X tg it w2) : PI X tg it (fun σ H R => w1 σ H R ∨ w2 σ H R) := ⟨fun pins s σ H R I h => by
  rcases h with h | h
  · exact h1.run pins s σ H R I h
  · exact h2.run pins s σ H R I h⟩
theorem pg_or {tg : PySem.Expr} {g1 g2 : TG} (h1 : PG X tg g1) (h2 : PG X tg g2) : PG X tg (fun v σ H Q => g1 v σ H Q ∨ g2 v σ H Q) := ⟨fun pins s σ H v u Q I r h => by
  rcases h with h | h
  · exact h1.run pins s σ H v u Q I r h
  · exact h2.run pins s σ H v u Q I r h⟩
end

/-! ### range(a, b) of any ints -/
section
theorem turn_long {P : Program} {w : World} {K : PySem.W.Frag} {tg : PySem.Expr} (it : Addr) (lo : Int) (n : Nat) : Turn P w K tg (Itr lo n) [it] it (fun i h => IsLongIter h it (lo + (i : Nat) * 1) ((n : Int) - (i : Nat)) 1) where
  mem := by simp
  obj := fun i h st b hb => by
    have e : b = it := by simpa using hb
    subst e
    exact ⟨_, st, fun v z => by
      have z' : Data.fields _ = Data.cell v := z
      cases z'⟩
  keep := fun i h h' st k => k it (by simp) _ st
  item := by
    intro X hP hw hK hc i pins s σ H E I hf st hg
    subst hP hw hK
    obtain ⟨f0, f1, f2, f3, f4, f5⟩ := hf it (by simp)
    have W := Walks.longrange (prog := X.prog) (w := X.w) (I.ok.hd hc) it lo 1 n
    refine W.item i s _ _ hg st fun v h' tk hv st' kk => ?_
    obtain ⟨t, rfl⟩ := hv
    have I1 : Inv X pins σ H { s with heap := h', toks := tk } := I.turned (fun b o hb e => kk b o (by simpa using hb) e) f0 f1 f3 f4 f5
    refine ⟨_, rfl, go_of (s := { s with heap := h', toks := tk }) (n := "longrange_iterator") st' rfl rfl (by decide) ⟨.int (lo + i), H, I1, ⟨t, ?_⟩, ⟨rfl, rfl⟩, st', fun b hb => (hf b hb).1⟩⟩
    rw [Int.mul_one]
  done := by
    intro X hP hw hK hc i pins s σ H E I hf st hg
    subst hP hw hK
    obtain ⟨f0, f1, f2, f3, f4, f5⟩ := hf it (by simp)
    exact wpAny_pyNext_long_end (I.ok.hd hc) st (by have : n ≤ i := hg; omega) fun h' eb => ⟨rfl, I.turned (t' := s.toks) (fun b o hb e => eb b o hb e) f0 f1 f3 f4 f5⟩
  self := fun _ _ _ _ _ st h => wpAny_pyIter_longiter st h
variable {X : Cx} {tg : PySem.Expr}
theorem rsize1 (lo hi : Int) : Builtin.Range.rangeSize lo hi 1 = (((hi - lo).toNat : Nat) : Int) := by
  rw [rangeSize_one]
  split <;> omega
theorem range_itL {pins : List (Addr × Obj)} {σ : L2.St} {H : Hp} {s : Shared} {R : It → Hp → Prop} {E : Value → Shared → Prop} {lo hi : Int} {t u v : Tok} {tk : Nat} (I : Inv X pins σ H s)
    (q : R (Itr lo (hi - lo).toNat) H) : wpAny (model X.prog X.w) X.A (pyIter (.ref s.heap.objs.size)) (PIE X pins σ tg R) E { s with heap := s.heap.push { cls := .type "range", data := .fields #[.int lo t, .int hi u, .int 1 v] }, toks := tk } := by
  have I1 : Inv X pins σ H { s with heap := s.heap.push { cls := .type "range", data := .fields #[.int lo t, .int hi u, .int 1 v] }, toks := tk } := I.kept fun b o e => Heap.get?_push_of_some _ e
  have e1 : lo + ((0 : Nat) : Int) * 1 = lo := by simp
  have e2 : (((hi - lo).toNat : Nat) : Int) - ((0 : Nat) : Int) = Builtin.Range.rangeSize lo hi 1 := by rw [rsize1]; omega
  have hf : ∀ b ∈ [(s.heap.push { cls := .type "range", data := .fields #[.int lo t, .int hi u, .int 1 v] }).objs.size], FpOk X pins H b := fun b hb => by
    have e : b = (s.heap.push { cls := .type "range", data := .fields #[.int lo t, .int hi u, .int 1 v] }).objs.size := by simpa using hb
    subst e
    exact I1.fpOk (Nat.le_refl _) (I1.hok.fresh (Nat.le_refl _))
  cases hs : Builtin.Range.small lo hi 1 with
  | true =>
    refine wpAny_pyIter_range (IsRange.new ..) hs ?_
    refine ⟨(s.heap.push { cls := .type "range", data := .fields #[.int lo t, .int hi u, .int 1 v] }).objs.size, [(s.heap.push { cls := .type "range", data := .fields #[.int lo t, .int hi u, .int 1 v] }).objs.size], _, _, H, rfl,
      I1.kept (t' := tk) fun b o e => Heap.get?_push_of_some _ e, turn_range _ lo (hi - lo).toNat, ?_, hf, q⟩
    show IsRangeIter _ _ (lo + ((0 : Nat) : Int) * 1) ((((hi - lo).toNat : Nat) : Int) - ((0 : Nat) : Int)) 1
    rw [e1, e2]
    exact Heap.get?_push_size _ rfl
  | false =>
    refine wpAny_pyIter_longrange (IsRange.new ..) hs ?_
    refine ⟨(s.heap.push { cls := .type "range", data := .fields #[.int lo t, .int hi u, .int 1 v] }).objs.size, [(s.heap.push { cls := .type "range", data := .fields #[.int lo t, .int hi u, .int 1 v] }).objs.size], _, _, H, rfl,
      I1.kept (t' := tk) fun b o e => Heap.get?_push_of_some _ e, turn_long _ lo (hi - lo).toNat, ?_, hf, q⟩
    show IsLongIter _ _ (lo + ((0 : Nat) : Int) * 1) ((((hi - lo).toNat : Nat) : Int) - ((0 : Nat) : Int)) 1
    rw [e1, e2]
    exact Heap.get?_push_size _ rfl
def iRng2L (ta : TA) : TI := fun σ H R => ta σ H fun vs H1 => ∃ i j : Int, vs = [.int i, .int j] ∧ R (Itr i (j - i).toNat) H1
theorem pi_range2L {a b : PySem.Expr} {ta : TA} {p pos : Pos} (hg : Gl X "range") (hm : X.mg "range" = none) (ha : PA X [a, b] ta) (hs : starEach [a, b] X.env = [(false, eval a X.env), (false, eval b X.env)] := by rfl) (hs2 : starEach [b] X.env = [(false, eval b X.env)] := by rfl) :
    PI X tg (.Call (.Name "range" p) [a, b] [] pos) (iRng2L ta) := by
  refine ⟨fun pins s σ H R I h => ?_⟩
  refine Call_ (ld_blt I hg hm boot_range (PyProof.Rows.callWith_type1 (thn (ha.run pos pins s σ H _ I h) fun us s1 ⟨vs, H1, I1, r1, q1⟩ => ?_) (by rw [hs, hs2]) (by rw [hs2]; rfl)))
  obtain ⟨i, j, e, q⟩ := q1
  subst e
  cases r1 with
  | cons r rr =>
    cases rr with
    | cons r' rr =>
      cases rr
      obtain ⟨t, rfl⟩ := r
      obtain ⟨t', rfl⟩ := r'
      exact call_range_2 (range_itL I1 q)
end

/-! ### rows: a list or a tuple -/
def Row (K : PySem.W.Frag) (H : Hp) (a : Addr) (xs : List V) : Prop := SqL K H a xs ∨ SqT K H a xs
theorem sameT {K : PySem.W.Frag} {H H' : Hp} {a : Addr} {xs : List V} (e : Same H H') (h : SqT K H a xs) : SqT K H' a xs := by
  rcases h with (h | ⟨o, h⟩) | h
  · exact .inl (.inl (e _ _ h))
  · exact .inl (.inr ⟨o, e _ _ h⟩)
  · exact .inr h
theorem Row.same {K : PySem.W.Frag} {H H' : Hp} {a : Addr} {xs : List V} (e : Same H H') (h : Row K H a xs) : Row K H' a xs := h.imp e.seq (sameT e)
theorem same_upd {H : Hp} {p : Addr} {o : HO} (h : H p = none) : Same H (upd H p o) := fun b x e => by
  rw [upd_ne (ne_of_none e h)]
  exact e
section
variable {X : Cx} {pos : Pos}
theorem call_lenA : CallR X (.builtin "len") (fun xs H Q => (∃ p ys, xs = [.ref p] ∧ (SqL X.K H p ys ∨ SqT X.K H p ys) ∧ Q (.int ys.length) H) ∨ (∃ z, xs = [.str z] ∧ z.length ≤ sizeLine ∧ Q (.int z.length) H)) := CallR.or call_len_seq call_len_str
def iSeq (K : PySem.W.Frag) (tl : TE) : TI := fun σ H R => iList K tl σ H R ∨ iTup K tl σ H R
theorem pi_seq {tg l : PySem.Expr} {tl : TE} (hl : PE X l tl) : PI X tg l (iSeq X.K tl) := pi_or (pi_list hl) (pi_tup hl)
def gSeq (K : PySem.W.Frag) (n : Nat) (t : TGs) : TG := fun v σ H Q => gTup K n t v σ H Q ∨ gUnl K n t v σ H Q
theorem pg_seq {es : List PySem.Expr} {k : Nat} {t : TGs} {n : Nat} (hc : X.calm = true) (h : PGs X es t)
    (hn : (assignEach es X.env).length = n := by rfl) (hst : (assignEach es X.env).findIdx? (·.1) = none := by rfl) : PG X (.Tuple es k pos) (gSeq X.K n t) := pg_or (pg_tup hc h hn hst) (pg_unl hc h hn hst)
end
theorem gSeq.row {K : PySem.W.Frag} {n : Nat} {t : TGs} {a : Addr} {xs : List V} {σ : L2.St} {H : Hp} {Q : L2.St → Hp → Prop} (h : Row K H a xs) (hl : xs.length = n) (q : t xs σ H Q) : gSeq K n t (.ref a) σ H Q := by
  rcases h with h | h
  · exact .inr ⟨a, xs, rfl, h, hl, q⟩
  · exact .inl ⟨a, xs, rfl, h, hl, q⟩
/-- for x in (a row that stands in slot i) -/
theorem for_row {K : PySem.W.Frag} {a : Addr} {xs : List V} {g : TG} {tb : TS} {D : Ends} {σ : L2.St} {Hb H : Hp} {j : Nat} (hv : σ[j]? = some (some (.ref a))) (hr : Row K Hb a xs) (hb : Same Hb H) (Pv : Nat → L2.St → Hp → Prop) (h0 : Pv 0 σ H) (hl : ∀ i σ H', i ≤ xs.length → Pv i σ H' → Same Hb H')
    (hs : ∀ i x σ H, xs[i]? = some x → Pv i σ H → g x σ H fun σ2 H2 => tb { D with nx := Pv (i + 1), ct := Pv (i + 1), bk := D.nx } σ2 H2) (hd : ∀ σ H, Pv xs.length σ H → D.nx σ H) :
    tFor (iSeq K (tVar j)) g tb D σ H := by
  rcases hr with hr | hr
  · exact .inl ⟨_, hv, a, rfl, ⟨_, hb.seq hr⟩, for_list (K := K) (a := a) (xs := xs) Pv h0 (fun i σ H' hi p => (hl i σ H' hi p).seq hr) hs hd⟩
  · exact .inr ⟨_, hv, a, rfl, ⟨_, sameT hb hr⟩, for_tup (K := K) (a := a) (xs := xs) Pv h0 (fun i σ H' hi p => sameT (hl i σ H' hi p) hr) hs hd⟩
/-! ### the same rules with the written part named, for use within comprehensions -/
section
variable {X : Cx} {pos : Pos} (K : PySem.W.Frag)
def rLenA (K : PySem.W.Frag) : List V → Hp → VK → Prop := fun xs H Q => (∃ p ys, xs = [.ref p] ∧ (SqL K H p ys ∨ SqT K H p ys) ∧ Q (.int ys.length) H) ∨ (∃ z, xs = [.str z] ∧ z.length ≤ sizeLine ∧ Q (.int z.length) H)
theorem ix_seqK (hK : X.K = K := by rfl) : IxR X (rIx K) := hK ▸ ix_seq
theorem call_lenK (hK : X.K = K := by rfl) : CallR X (.builtin "len") (rLenA K) := hK ▸ call_lenA
theorem pg_tupK {es : List PySem.Expr} {k : Nat} {t : TGs} {n : Nat} (hc : X.calm = true) (h : PGs X es t)
    (hn : (assignEach es X.env).length = n := by rfl) (hst : (assignEach es X.env).findIdx? (·.1) = none := by rfl) (hK : X.K = K := by rfl) : PG X (.Tuple es k pos) (gTup K n t) := hK ▸ pg_tup hc h hn hst
theorem pg_seqK {es : List PySem.Expr} {k : Nat} {t : TGs} {n : Nat} (hc : X.calm = true) (h : PGs X es t)
    (hn : (assignEach es X.env).length = n := by rfl) (hst : (assignEach es X.env).findIdx? (·.1) = none := by rfl) (hK : X.K = K := by rfl) : PG X (.Tuple es k pos) (gSeq K n t) := hK ▸ pg_seq hc h hn hst
end

/-! ### loops and comprehensions, folded -/
def ForGo (J : It) (g : TG) (tb : TS) (D : Ends) (σ : L2.St) (H : Hp) : Prop := ∃ W : Nat → Nat → L2.St → Hp → Prop, (∃ m, W 0 m σ H) ∧ ∀ i m σ H, W i m σ H →
  (J.stop i H ∧ D.nx σ H) ∨ (J.go i H ∧ ∃ N : L2.St → Hp → Prop, (∀ σ' H', N σ' H' → ∃ m', m' < m ∧ W (i + 1) m' σ' H') ∧ ∀ x H', J.yld i H x H' → g x σ H' fun σ2 H2 => tb { D with nx := N, ct := N, bk := D.nx } σ2 H2)
def LcGo (J : It) (g : TG) (tt : TT) (te : TE) (vs : List Nat) (σ : L2.St) (H1 : Hp) (D : Addr) (Q : VK) : Prop := ∃ W : Nat → Nat → Hp → Prop, (∃ m, W 0 m (upd H1 D (.lst []))) ∧ ∀ i m H, W i m H →
  (J.stop i H ∧ Q (.ref D) H) ∨ (J.go i H ∧ ∃ Nx : Hp → Prop, (∀ H', Nx H' → ∃ m', m' < m ∧ W (i + 1) m' H') ∧ ∀ x H', J.yld i H x H' → g x (wipe σ vs) H' fun σ2 H2 => wipe σ2 vs = wipe σ vs ∧ tt σ2 H2 fun b H3 =>
    if b = true then te σ2 H3 fun y H4 => ∃ acc, H4 D = some (.lst acc) ∧ acc.length < sizeLine ∧ Nx (upd H4 D (.lst (acc ++ [y]))) else Nx H3)
section
variable {K : PySem.W.Frag} {ta : TA} {tl : TE} {g : TG} {tb : TS} {D : Ends} {σ : L2.St} {H : Hp} {tt : TT} {te : TE} {vs : List Nat} {Q : VK}
theorem fr_rng1 (h : ta σ H fun us H1 => ∃ j : Int, us = [.int j] ∧ -(2 ^ 62) ≤ j ∧ j < 2 ^ 62 ∧ ForGo (Itr 0 j.toNat) g tb D σ H1) : tFor (iRng1 ta) g tb D σ H := h
theorem fr_rng2 (h : ta σ H fun us H1 => ∃ i j : Int, us = [.int i, .int j] ∧ (-(2 ^ 62) ≤ i ∧ i < 2 ^ 62 ∧ -(2 ^ 62) ≤ j ∧ j < 2 ^ 62) ∧ ForGo (Itr i (j - i).toNat) g tb D σ H1) : tFor (iRng2 ta) g tb D σ H := h
theorem fr_rng2L (h : ta σ H fun us H1 => ∃ i j : Int, us = [.int i, .int j] ∧ ForGo (Itr i (j - i).toNat) g tb D σ H1) : tFor (iRng2L ta) g tb D σ H := h
theorem fr_list (h : tl σ H fun x H1 => ∃ a, x = .ref a ∧ (∃ xs, SqL K H1 a xs) ∧ ForGo (Itl K a) g tb D σ H1) : tFor (iList K tl) g tb D σ H := h
theorem fr_str (h : tl σ H fun v H1 => ∃ x, v = .str x ∧ ForGo (Its x) g tb D σ H1) : tFor (iStr tl) g tb D σ H := h
theorem lc_rng1 (h : ta σ H fun us H1 => ∃ j : Int, us = [.int j] ∧ -(2 ^ 62) ≤ j ∧ j < 2 ^ 62 ∧ ∀ D, H1 D = none → LcGo (Itr 0 j.toNat) g tt te vs σ H1 D Q) : tLc (iRng1 ta) g tt te vs σ H Q := h
theorem lc_rng2 (h : ta σ H fun us H1 => ∃ i j : Int, us = [.int i, .int j] ∧ (-(2 ^ 62) ≤ i ∧ i < 2 ^ 62 ∧ -(2 ^ 62) ≤ j ∧ j < 2 ^ 62) ∧ ∀ D, H1 D = none → LcGo (Itr i (j - i).toNat) g tt te vs σ H1 D Q) : tLc (iRng2 ta) g tt te vs σ H Q := h
theorem lc_rng2L (h : ta σ H fun us H1 => ∃ i j : Int, us = [.int i, .int j] ∧ ∀ D, H1 D = none → LcGo (Itr i (j - i).toNat) g tt te vs σ H1 D Q) : tLc (iRng2L ta) g tt te vs σ H Q := h
theorem lc_lst (h : tl σ H fun x H1 => ∃ a, x = .ref a ∧ (∃ xs, SqL K H1 a xs) ∧ ∀ D, H1 D = none → LcGo (Itl K a) g tt te vs σ H1 D Q) : tLc (iList K tl) g tt te vs σ H Q := h
theorem lc_str (h : tl σ H fun v H1 => ∃ x, v = .str x ∧ ∀ D, H1 D = none → LcGo (Its x) g tt te vs σ H1 D Q) : tLc (iStr tl) g tt te vs σ H Q := h

theorem ForGo.range {lo : Int} {n : Nat} (Pv : Nat → L2.St → Hp → Prop) (h0 : Pv 0 σ H)
    (hs : ∀ i σ H, i < n → Pv i σ H → g (.int (lo + i)) σ H fun σ2 H2 => tb { D with nx := Pv (i + 1), ct := Pv (i + 1), bk := D.nx } σ2 H2) (hd : ∀ σ H, Pv n σ H → D.nx σ H) : ForGo (Itr lo n) g tb D σ H := for_range Pv h0 hs hd
theorem ForGo.list {a : Addr} {xs : List V} (Pv : Nat → L2.St → Hp → Prop) (h0 : Pv 0 σ H) (hl : ∀ i σ H, i ≤ xs.length → Pv i σ H → SqL K H a xs)
    (hs : ∀ i x σ H, xs[i]? = some x → Pv i σ H → g x σ H fun σ2 H2 => tb { D with nx := Pv (i + 1), ct := Pv (i + 1), bk := D.nx } σ2 H2) (hd : ∀ σ H, Pv xs.length σ H → D.nx σ H) : ForGo (Itl K a) g tb D σ H := for_list Pv h0 hl hs hd
theorem LcGo.range {lo : Int} {n : Nat} {D : Addr} (Pv : Nat → Hp → Prop) (h0 : Pv 0 (upd H D (.lst [])))
    (hs : ∀ i H, i < n → Pv i H → g (.int (lo + i)) (wipe σ vs) H fun σ2 H2 => wipe σ2 vs = wipe σ vs ∧ tt σ2 H2 fun b H3 =>
      if b = true then te σ2 H3 fun y H4 => ∃ acc, H4 D = some (.lst acc) ∧ acc.length < sizeLine ∧ Pv (i + 1) (upd H4 D (.lst (acc ++ [y]))) else Pv (i + 1) H3) (hd : ∀ H, Pv n H → Q (.ref D) H) : LcGo (Itr lo n) g tt te vs σ H D Q := L2.lc_range (lo := lo) (n := n) Pv h0 hs hd
theorem LcGo.list {a D : Addr} {xs : List V} (Pv : Nat → Hp → Prop) (h0 : Pv 0 (upd H D (.lst []))) (hl : ∀ i H, i ≤ xs.length → Pv i H → SqL K H a xs)
    (hs : ∀ i x H, xs[i]? = some x → Pv i H → g x (wipe σ vs) H fun σ2 H2 => wipe σ2 vs = wipe σ vs ∧ tt σ2 H2 fun b H3 =>
      if b = true then te σ2 H3 fun y H4 => ∃ acc, H4 D = some (.lst acc) ∧ acc.length < sizeLine ∧ Pv (i + 1) (upd H4 D (.lst (acc ++ [y]))) else Pv (i + 1) H3) (hd : ∀ H, Pv xs.length H → Q (.ref D) H) : LcGo (Itl K a) g tt te vs σ H D Q := L2.lc_list Pv h0 hl hs hd
theorem LcGo.str {z : Str} {D : Addr} (Pv : Nat → Hp → Prop) (h0 : Pv 0 (upd H D (.lst [])))
    (hs : ∀ i c H, z.cps[i]? = some c → Pv i H → g (.str ⟨#[c]⟩) (wipe σ vs) H fun σ2 H2 => wipe σ2 vs = wipe σ vs ∧ tt σ2 H2 fun b H3 =>
      if b = true then te σ2 H3 fun y H4 => ∃ acc, H4 D = some (.lst acc) ∧ acc.length < sizeLine ∧ Pv (i + 1) (upd H4 D (.lst (acc ++ [y]))) else Pv (i + 1) H3) (hd : ∀ H, Pv z.cps.size H → Q (.ref D) H) : LcGo (Its z) g tt te vs σ H D Q := by
  refine ⟨fun i m H => m = z.cps.size - i ∧ i ≤ z.cps.size ∧ Pv i H, ⟨z.cps.size, by simp, Nat.zero_le _, h0⟩, ?_⟩
  rintro i m H ⟨rfl, hi, p⟩
  by_cases hlt : i < z.cps.size
  · refine .inr ⟨hlt, Pv (i + 1), fun H' p' => ⟨z.cps.size - (i + 1), by omega, rfl, hlt, p'⟩, fun x H' y => ?_⟩
    obtain ⟨e, c, hc, rfl⟩ := y
    subst e
    exact hs i c _ hc p
  · have e : i = z.cps.size := by omega
    subst e
    exact .inl ⟨Nat.le_refl _, hd H p⟩
end
end BK

namespace BK
open PySem PySem.Spec PyProof.Rows L2 Builtin Builtin.Str

/-! ### texts as lists of codes -/
def tx (w : List Nat) : Str := ⟨w.toArray⟩
theorem tx_cps (w : List Nat) : (tx w).cps.toList = w := by unfold tx; simp
theorem tx_len (w : List Nat) : (tx w).length = w.length := by unfold tx; simp [Str.length]
theorem tx_inj {a b : List Nat} (h : tx a = tx b) : a = b := by
  have := congrArg (fun z : Str => z.cps.toList) h
  simpa [tx_cps] using this
theorem tx_of (z : Str) : tx z.cps.toList = z := Str.ext' (by unfold tx; simp)
theorem tx_ext {z : Str} {w : List Nat} (h : z.cps.toList = w) : z = tx w := by rw [← h, tx_of]
theorem tx_app (a b : List Nat) : tx a ++ tx b = tx (a ++ b) := tx_ext (by rw [Str.cps_append, Array.toList_append, tx_cps, tx_cps])
theorem tx_eq (a b : List Nat) : (V.str (tx a) = V.str (tx b)) ↔ a = b := ⟨fun h => tx_inj (V.str.inj h), fun h => by rw [h]⟩
theorem tx_one (c : Nat) : tx [c] = ⟨#[c]⟩ := rfl
theorem tx_nil : tx [] = "" := rfl

theorem cut_nn (w : List Nat) (i j : Nat) : cutS (tx w) (some (i : Int)) (some (j : Int)) = tx ((w.drop i).take (j - i)) := by
  refine tx_ext ?_
  unfold cutS
  rw [HT.sIx_nat, HT.sIx_nat, tx_cps, tx_len, List.toList_toArray]
  by_cases hi : i ≤ w.length
  · rw [Nat.min_eq_left hi]
    by_cases hj : j ≤ w.length
    · rw [Nat.min_eq_left hj]
    · rw [Nat.min_eq_right (by omega), List.take_of_length_le (by rw [List.length_drop]; omega), List.take_of_length_le (by rw [List.length_drop]; omega)]
  · rw [Nat.min_eq_right (show w.length ≤ i by omega), List.drop_length, List.drop_eq_nil_of_le (by omega), List.take_nil, List.take_nil]
theorem cut_n_ (w : List Nat) (i : Nat) : cutS (tx w) (some (i : Int)) none = tx (w.drop i) := by
  refine tx_ext ?_
  unfold cutS
  rw [HT.sIx_nat, HT.sIx_none, tx_cps, tx_len, List.toList_toArray]
  by_cases hi : i ≤ w.length
  · rw [Nat.min_eq_left hi, List.take_of_length_le (by rw [List.length_drop]; omega)]
  · rw [Nat.min_eq_right (by omega), List.drop_length, List.drop_eq_nil_of_le (by omega), List.take_nil]
theorem cut__n (w : List Nat) (j : Nat) : cutS (tx w) none (some (j : Int)) = tx (w.take j) := by
  refine tx_ext ?_
  unfold cutS
  rw [HT.sIx_nat, HT.sIx_none, tx_cps, tx_len, List.toList_toArray, List.drop_zero, Nat.sub_zero]
  by_cases hj : j ≤ w.length
  · rw [Nat.min_eq_left hj]
  · rw [Nat.min_eq_right (by omega), List.take_of_length_le (Nat.le_refl _), List.take_of_length_le (by omega)]

theorem foldl_app (l : List (List Nat)) : ∀ acc : Array Nat, ((l.map List.toArray).foldl (· ++ ·) acc).toList = acc.toList ++ l.flatten := by
  induction l with
  | nil => intro acc; simp
  | cons a l ih =>
    intro acc
    rw [List.map_cons, List.foldl_cons, ih, Array.toList_append, List.toList_toArray, List.flatten_cons, List.append_assoc]
theorem mul_tx (w : List Nat) (n : Nat) : Txt.mul (tx w) (n : Int) = tx (List.replicate n w).flatten := by
  refine tx_ext ?_
  unfold Txt.mul
  split
  · have : n = 0 := by omega
    subst this
    rfl
  · split
    · rename_i h1 h2
      rw [Bool.or_eq_true] at h2
      rcases h2 with h2 | h2
      · have : n = 1 := by have := eq_of_beq h2; omega
        subst this
        rw [tx_cps]
        simp
      · have : w = [] := by
          have := eq_of_beq h2
          rw [tx_len] at this
          exact List.eq_nil_of_length_eq_zero this
        subst this
        rw [tx_cps]
        simp
    · rw [Int.toNat_natCast]
      have e : List.replicate n (tx w).cps = (List.replicate n w).map List.toArray := by rw [List.map_replicate]; rfl
      show (List.foldl (· ++ ·) #[] (List.replicate n (tx w).cps)).toList = _
      rw [e, foldl_app]
      simp
theorem mul_ok {w : List Nat} {n : Nat} (L N : Nat) (h : w.length ≤ L) (hn : n ≤ N) (hN : N ≤ 16777216) (hL : L * N ≤ 16777216) : MulOk (tx w) (n : Int) :=
  mulOk_of L N (by rw [tx_len]; exact h) (by omega) (by omega) hN hL

theorem join_go : ∀ (ws : List (List Nat)) (acc : Array Nat), ((ws.map tx).foldl (fun acc p => acc ++ (tx []).cps ++ p.cps) acc).toList = acc.toList ++ ws.flatten
  | [], acc => by simp
  | a :: l, acc => by
    rw [List.map_cons, List.foldl_cons, join_go l, Array.toList_append, Array.toList_append, tx_cps, List.flatten_cons, tx_cps, List.append_nil, List.append_assoc]
theorem join_tx (ws : List (List Nat)) : Txt.join (tx []) (ws.map tx) = tx ws.flatten := by
  refine tx_ext ?_
  show (glued (tx []) (ws.map tx)).cps.toList = _
  unfold glued
  cases ws with
  | nil => rfl
  | cons a l =>
    show (((l.map tx)).foldl (fun acc p => acc ++ (tx []).cps ++ p.cps) (tx a).cps).toList = _
    rw [join_go, tx_cps, List.flatten_cons]

/-! ### how many of one sign -/
theorem sub_one (w : List Nat) (c i : Nat) : (i + (tx [c]).length ≤ (tx w).length ∧ subAt (tx w) (tx [c]) i = true) ↔ w[i]? = some c := by
  have h := StrLaws.subAt_one (tx w) c i
  rw [tx_cps] at h
  exact h
theorem occ_run (w : List Nat) (c : Nat) : ∀ (n i : Nat) (st : Array Nat × Nat), st.2 ≤ i → st.1.size ≤ i → i ≤ w.length →
    (forIn (List.range' i n) st (StrLaws.occBody (tx w) (tx [c]) (tx w).length ((tx w).length + 1))).run.1.size = st.1.size + ((w.drop i).take n).count c
  | 0, i, st, h1, h2, h3 => by simp
  | n + 1, i, st, h1, h2, h3 => by
    rw [List.range'_succ, List.forIn_cons]
    unfold StrLaws.occBody
    have hs := sub_one w c i
    by_cases hc : w[i]? = some c
    · have hq := hs.mpr hc
      have hlt : i < w.length := (List.getElem?_eq_some_iff.mp hc).1
      rw [if_pos ⟨⟨⟨by rw [tx_len]; omega, h1⟩, hq.1⟩, hq.2⟩]
      have ih := occ_run w c n (i + 1) (st.1.push i, i + (tx [c]).length) (by rw [tx_len]; exact Nat.le_refl _) (by rw [Array.size_push]; omega) hlt
      refine ih.trans ?_
      rw [Array.size_push, List.drop_eq_getElem_cons hlt, List.take_succ_cons, List.count_cons]
      have e : w[i] = c := (List.getElem?_eq_some_iff.mp hc).2
      rw [e, beq_self_eq_true, if_pos rfl]
      omega
    · rw [if_neg (fun z => hc (hs.mp ⟨z.1.2, z.2⟩))]
      by_cases hlt : i < w.length
      · have ih := occ_run w c n (i + 1) (st.1, st.2) (by show st.2 ≤ i + 1; omega) (by show st.1.size ≤ i + 1; omega) hlt
        refine ih.trans ?_
        rw [List.drop_eq_getElem_cons hlt, List.take_succ_cons, List.count_cons]
        have e : w[i] ≠ c := fun z => hc (by rw [List.getElem?_eq_getElem hlt, z])
        rw [beq_eq_false_iff_ne.mpr e, if_neg Bool.false_ne_true, Nat.add_zero]
        all_goals rfl
      · have e0 : ∀ (m j : Nat) (st : Array Nat × Nat), w.length ≤ j → (forIn (List.range' j m) st (StrLaws.occBody (tx w) (tx [c]) (tx w).length ((tx w).length + 1))).run.1.size = st.1.size := by
          intro m
          induction m with
          | zero => intro j st _; rfl
          | succ m ih =>
            intro j st hj
            rw [List.range'_succ, List.forIn_cons]
            unfold StrLaws.occBody
            rw [if_neg (fun z => by have := (sub_one w c j).mp ⟨z.1.2, z.2⟩; rw [List.getElem?_eq_none hj] at this; cases this)]
            exact ih (j + 1) (st.1, st.2) (by omega)
        refine (e0 n (i + 1) (st.1, st.2) (by omega)).trans ?_
        rw [List.drop_eq_nil_of_le (by omega), List.take_nil, List.count_nil, Nat.add_zero]
theorem count_tx (w : List Nat) (c : Nat) : Txt.count (tx w) (tx [c]) = (w.count c : Nat) := by
  unfold Txt.count
  rw [StrLaws.occ_eq, Array.length_toList]
  have h := occ_run w c ((tx w).length + 1 - 0) 0 (#[], 0) (Nat.le_refl _) (Nat.le_refl _) (Nat.zero_le _)
  rw [h, List.drop_zero, List.take_of_length_le (by rw [tx_len]; omega)]
  simp

/-! ### strip of signs -/
theorem takeWhile_all {p : Nat → Bool} : ∀ {l : List Nat}, l.all p = true → l.takeWhile p = l
  | [], _ => rfl
  | a :: l, h => by
    rw [List.all_cons, Bool.and_eq_true] at h
    rw [List.takeWhile_cons, if_pos h.1, takeWhile_all h.2]
theorem takeWhile_len {p : Nat → Bool} : ∀ (l : List Nat), l.all p = false → ∃ x, l[(l.takeWhile p).length]? = some x ∧ p x = false
  | [], h => by simp at h
  | a :: l, h => by
    rw [List.takeWhile_cons]
    by_cases ha : p a = true
    · rw [List.all_cons, ha, Bool.true_and] at h
      rw [if_pos ha]
      obtain ⟨x, h1, h2⟩ := takeWhile_len l h
      exact ⟨x, by rw [List.length_cons, List.getElem?_cons_succ]; exact h1, h2⟩
    · rw [if_neg ha]
      exact ⟨a, rfl, Bool.eq_false_iff.mpr ha⟩
theorem strip_iff (w y : List Nat) : (Txt.stripChars (tx w) (tx y) = tx []) ↔ w.all (y.contains ·) = true := by
  have hp : ∀ c, (tx y).cps.contains c = y.contains c := fun c => by unfold tx; simp
  have hp' : (tx y).cps.contains = fun c => y.contains c := funext hp
  unfold Txt.stripChars Txt.stripBy
  rw [hp']
  have hlo : stripLo (fun c => y.contains c) true (tx w) = (w.takeWhile fun c => y.contains c).length := by
    unfold stripLo
    rw [if_pos rfl, tx_cps]
  cases hall : w.all (y.contains ·) with
  | true =>
    have e := takeWhile_all (p := fun c => y.contains c) hall
    rw [e] at hlo
    refine ⟨fun _ => rfl, fun _ => ?_⟩
    by_cases hs : stripSame (fun c => y.contains c) true true (tx w) = true
    · rw [if_pos hs]
      unfold stripSame at hs
      rw [Bool.and_eq_true] at hs
      rw [hlo] at hs
      have : w.length = 0 := eq_of_beq hs.1
      rw [List.eq_nil_of_length_eq_zero this]
    · rw [if_neg hs]
      refine tx_ext ?_
      unfold stripped
      rw [hlo, StrLaws.strSub_toList, tx_cps, List.drop_length, List.take_nil]
  | false =>
    refine ⟨fun h => ?_, fun h => by cases h⟩
    exfalso
    obtain ⟨x, hx, hpx⟩ := takeWhile_len (p := fun c => y.contains c) w hall
    by_cases hs : stripSame (fun c => y.contains c) true true (tx w) = true
    · rw [if_pos hs] at h
      have : w = [] := tx_inj h
      subst this
      simp at hall
    · rw [if_neg hs] at h
      have h2 := congrArg (fun z : Str => z.cps.toList) h
      unfold stripped at h2
      simp only [StrLaws.strSub_toList, tx_cps, hlo] at h2
      have hlt : (w.takeWhile fun c => y.contains c).length < w.length := (List.getElem?_eq_some_iff.mp hx).1
      -- the right end lies behind x
      have hhi : (w.takeWhile fun c => y.contains c).length < stripHi (fun c => y.contains c) true (tx w) (w.takeWhile fun c => y.contains c).length := by
        unfold stripHi
        rw [if_pos rfl, tx_cps, tx_len]
        have hne : ((w.drop (w.takeWhile fun c => y.contains c).length).reverse).all (fun c => y.contains c) = false := by
          rw [List.all_reverse, List.drop_eq_getElem_cons hlt, List.all_cons]
          have e : w[(w.takeWhile fun c => y.contains c).length] = x := (List.getElem?_eq_some_iff.mp hx).2
          rw [e, hpx, Bool.false_and]
        obtain ⟨z, hz, _⟩ := takeWhile_len (p := fun c => y.contains c) _ hne
        have hl2 := (List.getElem?_eq_some_iff.mp hz).1
        rw [List.length_reverse, List.length_drop] at hl2
        omega
      have h3 := congrArg List.length h2
      rw [List.length_take, List.length_drop] at h3
      have hz : ([] : List Nat).length = 0 := rfl
      have hk : 0 < stripHi (fun c => y.contains c) true (tx w) (w.takeWhile fun c => y.contains c).length - (w.takeWhile fun c => y.contains c).length := by omega
      have h4 : (tx ([] : List Nat)).cps.toList.length = 0 := rfl
      have h5 : min (stripHi (fun c => y.contains c) true (tx w) (w.takeWhile fun c => y.contains c).length - (w.takeWhile fun c => y.contains c).length) (w.length - (w.takeWhile fun c => y.contains c).length) = 0 := h3
      omega
end BK

namespace BK
open PySem PySem.Spec PyProof.Rows L2

/-! ### a word again and again -/
def rep (w : List Nat) (n : Nat) : List Nat := (List.replicate n w).flatten
theorem rep_zero (w : List Nat) : rep w 0 = [] := rfl
theorem rep_succ (w : List Nat) (n : Nat) : rep w (n + 1) = w ++ rep w n := by unfold rep; rw [List.replicate_succ, List.flatten_cons]
theorem rep_len (w : List Nat) : ∀ n, (rep w n).length = n * w.length
  | 0 => by rw [rep_zero]; simp
  | n + 1 => by rw [rep_succ, List.length_append, rep_len w n, Nat.add_mul, Nat.one_mul, Nat.add_comm]
theorem rep_add (w : List Nat) (m : Nat) : ∀ n, rep w (n + m) = rep w n ++ rep w m
  | 0 => by rw [Nat.zero_add, rep_zero, List.nil_append]
  | n + 1 => by rw [show n + 1 + m = (n + m) + 1 by omega, rep_succ, rep_add w m n, rep_succ, List.append_assoc]
theorem rep_get (w : List Nat) : ∀ (n i : Nat), i < n * w.length → (rep w n)[i]? = w[i % w.length]?
  | 0, i, h => by simp at h
  | n + 1, i, h => by
    rw [rep_succ]
    by_cases hi : i < w.length
    · rw [List.getElem?_append_left hi, Nat.mod_eq_of_lt hi]
    · have hn : w.length ≤ i := by omega
      have h2 : i - w.length < n * w.length := by rw [Nat.add_mul, Nat.one_mul] at h; omega
      rw [List.getElem?_append_right hn, rep_get w n _ h2, Nat.mod_eq_sub_mod hn]
theorem rep_count (w : List Nat) (c : Nat) : ∀ n, (rep w n).count c = n * w.count c
  | 0 => by rw [rep_zero]; simp
  | n + 1 => by rw [rep_succ, List.count_append, rep_count w c n, Nat.add_mul, Nat.one_mul, Nat.add_comm]
theorem rep_take {w : List Nat} (hw : w ≠ []) {n m : Nat} (h : m ≤ n * w.length) : (rep w n).take m = rep w (m / w.length) ++ w.take (m % w.length) := by
  have hp : 0 < w.length := List.length_pos_iff.mpr hw
  have hq : m / w.length ≤ n := by
    have := Nat.div_le_div_right (c := w.length) h
    rwa [Nat.mul_div_cancel _ hp] at this
  have e : n = m / w.length + (n - m / w.length) := by omega
  rw [e, rep_add]
  have hm : m = m / w.length * w.length + m % w.length := by rw [Nat.mul_comm]; exact (Nat.div_add_mod m w.length).symm
  rw [List.take_append, rep_len]
  have h1 : List.take m (rep w (m / w.length)) = rep w (m / w.length) := List.take_of_length_le (by rw [rep_len]; exact Nat.div_mul_le_self _ _)
  rw [h1]
  have h2 : m - m / w.length * w.length = m % w.length := by
    omega
  rw [h2]
  congr 1
  have hlt := Nat.mod_lt m hp
  cases hk : n - m / w.length with
  | zero =>
    have h3 : m ≤ m / w.length * w.length := by
      have e3 : n = m / w.length := by omega
      have h4 := h
      rw [e3] at h4
      exact h4
    have h5 : m % w.length = 0 := by omega
    rw [h5, rep_zero, List.take_zero, List.take_zero]
  | succ k => rw [rep_succ, List.take_append_of_le_length (by omega)]
theorem rep_take_count {w : List Nat} (hw : w ≠ []) {n m : Nat} (c : Nat) (h : m ≤ n * w.length) : ((rep w n).take m).count c = w.count c * (m / w.length) + (w.take (m % w.length)).count c := by
  rw [rep_take hw h, List.count_append, rep_count, Nat.mul_comm]

/-! ### texts by pieces -/
abbrev Pcs := List (List Nat × Nat)
def spell (ps : Pcs) : List Nat := (ps.map fun p => rep p.1 p.2).flatten
theorem spell_nil : spell [] = [] := rfl
theorem spell_cons (p : List Nat × Nat) (ps : Pcs) : spell (p :: ps) = rep p.1 p.2 ++ spell ps := by unfold spell; rw [List.map_cons, List.flatten_cons]
theorem spell_app (ps qs : Pcs) : spell (ps ++ qs) = spell ps ++ spell qs := by unfold spell; rw [List.map_append, List.flatten_append]
def size (ps : Pcs) : Nat := (ps.map fun p => p.1.length * p.2).sum
theorem spell_len (ps : Pcs) : (spell ps).length = size ps := by
  induction ps with
  | nil => rfl
  | cons p ps ih => rw [spell_cons, List.length_append, ih, rep_len]; unfold size; rw [List.map_cons, List.sum_cons, Nat.mul_comm]
theorem size_cons (p : List Nat × Nat) (ps : Pcs) : size (p :: ps) = p.1.length * p.2 + size ps := rfl
theorem size_take_succ (ps : Pcs) : ∀ {i : Nat} {p}, ps[i]? = some p → size (ps.take (i + 1)) = size (ps.take i) + p.1.length * p.2 := by
  induction ps with
  | nil => intro i p h; simp at h
  | cons q ps ih =>
    intro i p h
    cases i with
    | zero =>
      have e : q = p := by simpa using h
      subst e
      simp [size]
    | succ i =>
      have := ih (i := i) (p := p) (by simpa using h)
      rw [List.take_succ_cons, size_cons, this, List.take_succ_cons, size_cons, Nat.add_assoc]
theorem size_take_le (ps : Pcs) (i : Nat) : size (ps.take i) ≤ size ps := by
  induction ps generalizing i with
  | nil => simp
  | cons q ps ih =>
    cases i with
    | zero => simp [size]
    | succ i => rw [List.take_succ_cons, size_cons, size_cons]; have := ih i; omega

/-- small letters -/
def alpha : List Nat := [97, 98, 99, 100, 101, 102, 103, 104, 105, 106, 107, 108, 109, 110, 111, 112, 113, 114, 115, 116, 117, 118, 119, 120, 121, 122]
theorem tx_alpha : tx alpha = ("abcdefghijklmnopqrstuvwxyz" : Str) := by decide +kernel
def Plain (w : List Nat) : Prop := w.all (alpha.contains ·) = true
def Word (w : List Nat) : Prop := Plain w ∧ w ≠ [] ∧ w.length ≤ 60
structure Good (ps : Pcs) : Prop where
  few : ps.length ≤ 40
  ok : ∀ p ∈ ps, Word p.1 ∧ 1 ≤ p.2
  all : size ps ≤ 10 ^ 30

/-! ### things -/
inductive Dt where
  | non | bl (b : Bool) | int (i : Int) | str (w : List Nat) | lst (xs : List Dt) | tup (xs : List Dt) | dic
mutual
def At (K : PySem.W.Frag) (H : Hp) : V → Dt → Prop
  | v, .non => v = .non
  | v, .bl b => v = .bl b
  | v, .int i => v = .int i
  | v, .str w => v = .str (tx w) ∧ w.length ≤ 1000000
  | v, .lst ds => ∃ a xs, v = .ref a ∧ SqL K H a xs ∧ Ats K H xs ds
  | v, .tup ds => ∃ a xs, v = .ref a ∧ SqT K H a xs ∧ Ats K H xs ds
  | v, .dic => ∃ a, v = .ref a ∧ H a = some (.dK [])
def Ats (K : PySem.W.Frag) (H : Hp) : List V → List Dt → Prop
  | vs, [] => vs = []
  | vs, d :: ds => ∃ v us, vs = v :: us ∧ At K H v d ∧ Ats K H us ds
end
section
variable {K : PySem.W.Frag} {H H' : Hp}
mutual
theorem At.same (e : Same H H') : ∀ (d : Dt) (v : V), At K H v d → At K H' v d
  | .non, v, h => by unfold At at h ⊢; exact h
  | .bl _, v, h => by unfold At at h ⊢; exact h
  | .int _, v, h => by unfold At at h ⊢; exact h
  | .str _, v, h => by unfold At at h ⊢; exact h
  | .lst ds, v, h => by
    unfold At at h ⊢
    obtain ⟨a, xs, rfl, h1, h2⟩ := h
    exact ⟨a, xs, rfl, e.seq h1, Ats.same e ds xs h2⟩
  | .tup ds, v, h => by
    unfold At at h ⊢
    obtain ⟨a, xs, rfl, h1, h2⟩ := h
    exact ⟨a, xs, rfl, sameT e h1, Ats.same e ds xs h2⟩
  | .dic, v, h => by
    unfold At at h ⊢
    obtain ⟨a, rfl, h1⟩ := h
    exact ⟨a, rfl, e _ _ h1⟩
theorem Ats.same (e : Same H H') : ∀ (ds : List Dt) (vs : List V), Ats K H vs ds → Ats K H' vs ds
  | [], vs, h => by unfold Ats at h ⊢; exact h
  | d :: ds, vs, h => by
    unfold Ats at h ⊢
    obtain ⟨v, us, rfl, h1, h2⟩ := h
    exact ⟨v, us, rfl, At.same e d v h1, Ats.same e ds us h2⟩
end
theorem Ats.len : ∀ {ds : List Dt} {vs : List V}, Ats K H vs ds → vs.length = ds.length
  | [], vs, h => by unfold Ats at h; subst h; rfl
  | d :: ds, vs, h => by
    unfold Ats at h
    obtain ⟨v, us, rfl, _, h2⟩ := h
    rw [List.length_cons, List.length_cons, h2.len]
theorem Ats.get : ∀ {ds : List Dt} {vs : List V} {i : Nat} {d : Dt}, Ats K H vs ds → ds[i]? = some d → ∃ v, vs[i]? = some v ∧ At K H v d
  | [], vs, i, d, h, e => by simp at e
  | c :: ds, vs, i, d, h, e => by
    unfold Ats at h
    obtain ⟨v, us, rfl, h1, h2⟩ := h
    cases i with
    | zero =>
      have : c = d := by simpa using e
      subst this
      exact ⟨v, rfl, h1⟩
    | succ i => exact h2.get (by simpa using e)
end
/-- the type's name -/
def Dt.ty : Dt → String
  | .non => "NoneType"
  | .bl _ => "bool"
  | .int _ => "int"
  | .str _ => "str"
  | .lst _ => "list"
  | .tup _ => "tuple"
  | .dic => "dict"
theorem ty_known (d : Dt) : d.ty ∈ knownTy := by cases d <;> simp [Dt.ty, knownTy]
theorem At.ty {K : PySem.W.Frag} {H : Hp} {v : V} {d : Dt} (h : At K H v d) : TyB K H v d.ty := by
  cases d with
  | non => unfold At at h; subst h; exact .non
  | bl b => unfold At at h; subst h; exact .bl b
  | int i => unfold At at h; subst h; exact .int i
  | str w => unfold At at h; obtain ⟨rfl, _⟩ := h; exact .str _
  | lst ds => unfold At at h; obtain ⟨a, xs, rfl, h1, _⟩ := h; exact .lst h1
  | tup ds => unfold At at h; obtain ⟨a, xs, rfl, h1, _⟩ := h; exact .tup h1
  | dic => unfold At at h; obtain ⟨a, rfl, h1⟩ := h; exact .dK h1
/-- what is_row, is_whole, .. tell -/
def isRow : Dt → Bool
  | .lst _ => true
  | .tup _ => true
  | _ => false
def Dt.items : Dt → List Dt
  | .lst ds => ds
  | .tup ds => ds
  | _ => []
def isWhole (d : Dt) (lo : Int) : Bool := match d with
  | .int i => decide (lo ≤ i)
  | _ => false
def isWithin (d : Dt) (lo hi : Int) : Bool := match d with
  | .int i => decide (lo ≤ i) && decide (i ≤ hi)
  | _ => false
def isPlain : Dt → Bool
  | .str w => w.all (alpha.contains ·)
  | _ => false
def isLetter : Dt → Bool
  | .str w => w.all (alpha.contains ·) && decide (w.length = 1)
  | _ => false
def isClip : Dt → Bool
  | .str w => w.all (alpha.contains ·) && decide (w.length ≤ 60)
  | _ => false
def isWord : Dt → Bool
  | .str w => w.all (alpha.contains ·) && decide (w.length ≤ 60) && decide (w ≠ [])
  | _ => false
def isPiece (d : Dt) : Bool := isRow d && (match d.items with
  | [a, b] => isWord a && isWhole b 1
  | _ => false)
def pieceSize (d : Dt) : Int := match d.items with
  | [.str w, .int n] => (w.length : Int) * n
  | _ => 0
def isText (d : Dt) : Bool := isRow d && decide (d.items.length ≤ 40) && d.items.all isPiece && decide ((d.items.map pieceSize).sum ≤ 10 ^ 30)
/-- a text's pieces -/
def pcOf (d : Dt) : List Nat × Nat := match d.items with
  | [.str w, .int n] => (w, n.toNat)
  | _ => ([], 0)
def pcs (d : Dt) : Pcs := d.items.map pcOf
theorem isPiece_of {d : Dt} (h : isPiece d = true) : ∃ w n, d.items = [.str w, .int n] ∧ isRow d = true ∧ Word w ∧ 1 ≤ n := by
  unfold isPiece at h
  rw [Bool.and_eq_true] at h
  obtain ⟨h1, h2⟩ := h
  split at h2
  · rename_i a b e
    rw [Bool.and_eq_true] at h2
    obtain ⟨h3, h4⟩ := h2
    cases a with
    | str w =>
      cases b with
      | int n =>
        unfold isWord at h3
        unfold isWhole at h4
        simp only [Bool.and_eq_true, decide_eq_true_eq] at h3 h4
        exact ⟨w, n, e, h1, ⟨h3.1.1, h3.2, h3.1.2⟩, h4⟩
      | _ => simp [isWhole] at h4
    | _ => simp [isWord] at h3
  · cases h2
theorem sum_size : ∀ {ds : List Dt}, ds.all isPiece = true → (ds.map pieceSize).sum = (size (ds.map pcOf) : Int)
  | [], _ => rfl
  | d :: ds, h => by
    rw [List.all_cons, Bool.and_eq_true] at h
    obtain ⟨w, n, e, _, _, hn⟩ := isPiece_of h.1
    rw [List.map_cons, List.sum_cons, sum_size h.2, List.map_cons, size_cons]
    have e1 : pieceSize d = (w.length : Int) * n := by unfold pieceSize; rw [e]
    have e2 : pcOf d = (w, n.toNat) := by unfold pcOf; rw [e]
    rw [e1, e2, Int.natCast_add, Int.natCast_mul, Int.toNat_of_nonneg (by omega)]
theorem Good.of {d : Dt} (h : isText d = true) : Good (pcs d) := by
  unfold isText at h
  simp only [Bool.and_eq_true, decide_eq_true_eq] at h
  obtain ⟨⟨⟨h1, h2⟩, h3⟩, h4⟩ := h
  refine ⟨by unfold pcs; rw [List.length_map]; exact h2, fun p hp => ?_, ?_⟩
  · unfold pcs at hp
    obtain ⟨e, he, rfl⟩ := List.mem_map.mp hp
    obtain ⟨w, n, e1, _, hw, hn⟩ := isPiece_of (List.all_eq_true.mp h3 e he)
    have e2 : pcOf e = (w, n.toNat) := by unfold pcOf; rw [e1]
    rw [e2]
    exact ⟨hw, by show 1 ≤ n.toNat; omega⟩
  · rw [sum_size h3] at h4
    unfold pcs
    have : ((10 ^ 30 : Nat) : Int) = (10 ^ 30 : Int) := by decide
    omega

/-! ### a text in the heap, by its pieces -/
def PieceAt (K : PySem.W.Frag) (H : Hp) (v : V) (p : List Nat × Nat) : Prop := ∃ a, v = .ref a ∧ Row K H a [.str (tx p.1), .int p.2]
def TextAt (K : PySem.W.Frag) (H : Hp) (v : V) (ps : Pcs) : Prop := ∃ a xs, v = .ref a ∧ Row K H a xs ∧ Paired (PieceAt K H) xs ps
theorem prd_same {α β : Type} {R S : α → β → Prop} (f : ∀ a b, R a b → S a b) : ∀ {xs : List α} {ys : List β}, Paired R xs ys → Paired S xs ys
  | _, _, .nil => .nil
  | _, _, .cons h t => .cons (f _ _ h) (prd_same f t)
theorem PieceAt.same {K : PySem.W.Frag} {H H' : Hp} {v : V} {p} (e : Same H H') (h : PieceAt K H v p) : PieceAt K H' v p := by
  obtain ⟨a, rfl, h⟩ := h
  exact ⟨a, rfl, h.same e⟩
theorem TextAt.same {K : PySem.W.Frag} {H H' : Hp} {v : V} {ps} (e : Same H H') (h : TextAt K H v ps) : TextAt K H' v ps := by
  obtain ⟨a, xs, rfl, h1, h2⟩ := h
  exact ⟨a, xs, rfl, h1.same e, prd_same (fun _ _ => PieceAt.same e) h2⟩
theorem at_row {K : PySem.W.Frag} {H : Hp} {v : V} {d : Dt} (h : At K H v d) (hr : isRow d = true) : ∃ a xs, v = .ref a ∧ Row K H a xs ∧ Ats K H xs d.items := by
  cases d with
  | lst ds => unfold At at h; obtain ⟨a, xs, rfl, h1, h2⟩ := h; exact ⟨a, xs, rfl, .inl h1, h2⟩
  | tup ds => unfold At at h; obtain ⟨a, xs, rfl, h1, h2⟩ := h; exact ⟨a, xs, rfl, .inr h1, h2⟩
  | _ => simp [isRow] at hr
theorem pieceAt_of {K : PySem.W.Frag} {H : Hp} {v : V} {d : Dt} (h : At K H v d) (hp : isPiece d = true) : PieceAt K H v (pcOf d) := by
  obtain ⟨w, n, e, hr, hw, hn⟩ := isPiece_of hp
  obtain ⟨a, xs, rfl, h1, h2⟩ := at_row h hr
  rw [e] at h2
  unfold Ats at h2
  obtain ⟨v1, us, rfl, g1, h2⟩ := h2
  unfold Ats at h2
  obtain ⟨v2, us, rfl, g2, h2⟩ := h2
  unfold Ats at h2
  subst h2
  unfold At at g1 g2
  obtain ⟨rfl, _⟩ := g1
  subst g2
  have e2 : pcOf d = (w, n.toNat) := by unfold pcOf; rw [e]
  rw [e2]
  refine ⟨a, rfl, ?_⟩
  show Row K H a [.str (tx w), .int (n.toNat : Int)]
  rw [Int.toNat_of_nonneg (by omega)]
  exact h1
theorem textAt_of {K : PySem.W.Frag} {H : Hp} {v : V} {d : Dt} (h : At K H v d) (ht : isText d = true) : TextAt K H v (pcs d) := by
  unfold isText at ht
  simp only [Bool.and_eq_true, decide_eq_true_eq] at ht
  obtain ⟨⟨⟨h1, h2⟩, h3⟩, h4⟩ := ht
  obtain ⟨a, xs, rfl, g1, g2⟩ := at_row h h1
  refine ⟨a, xs, rfl, g1, ?_⟩
  unfold pcs
  generalize hd : d.items = ds at g2 h3
  clear hd h4 h1 h2 g1 h
  induction ds generalizing xs with
  | nil => unfold Ats at g2; subst g2; exact .nil
  | cons c ds ih =>
    unfold Ats at g2
    obtain ⟨v, us, rfl, k1, k2⟩ := g2
    rw [List.all_cons, Bool.and_eq_true] at h3
    exact .cons (pieceAt_of k1 h3.1) (ih us k2 h3.2)
theorem prd_at {α β : Type} {R : α → β → Prop} {xs : List α} {ys : List β} (h : Paired R xs ys) : ∀ {i : Nat} {x : α}, xs[i]? = some x → ∃ y, ys[i]? = some y ∧ R x y := by
  induction h with
  | nil => intro i x e; simp at e
  | cons h t ih =>
    intro i x e
    cases i with
    | zero =>
      have := Option.some.inj e
      subst this
      exact ⟨_, rfl, h⟩
    | succ i => exact ih (by simpa using e)
theorem prd_len {α β : Type} {R : α → β → Prop} {xs : List α} {ys : List β} (h : Paired R xs ys) : xs.length = ys.length := Paired.length h

theorem at_ofA {α : Type} {xs : List α} {z : Int} {j : Nat} {v : α} (e : z = (j : Int)) (h : xs[j]? = some v) : atI xs z = some v := by
  rw [e]
  exact atI_nat h
/-! ### readings over rows -/
section
variable {K : PySem.W.Frag} {H : Hp} {a : Addr} {xs : List V}
theorem ix_row {i : Int} {x : V} {Q : VK} (h : Row K H a xs) (e : atI xs i = some x) (q : Q x H) : rIx K (.ref a) (.int i) H Q := by
  rcases h with h | h
  · exact .inl ⟨a, xs, i, x, rfl, rfl, h, e, q⟩
  · exact .inr (.inl ⟨a, xs, i, x, rfl, rfl, h, e, q⟩)
theorem ix_lst {i : Int} {x : V} {Q : VK} (h : H a = some (.lst xs)) (e : atI xs i = some x) (q : Q x H) : rIx K (.ref a) (.int i) H Q := ix_row (.inl (SqL.of h)) e q
theorem ix_tx {z : List Nat} {i : Int} {c : Nat} {Q : VK} (h : z.length ≤ 1000000) (e : atI z i = some c) (q : Q (.str (tx [c])) H) : rIx K (.str (tx z)) (.int i) H Q :=
  .inr (.inr ⟨tx z, i, c, rfl, rfl, by rw [tx_len]; exact Nat.le_trans h (by decide), by rw [tx_cps]; exact e, q⟩)
theorem len_row {Q : VK} (h : Row K H a xs) (q : Q (.int xs.length) H) : rLenA K [.ref a] H Q := .inl ⟨a, xs, rfl, h, q⟩
theorem len_tx {w : List Nat} {Q : VK} (h : w.length ≤ 1000000) (q : Q (.int w.length) H) : rLenA K [.str (tx w)] H Q :=
  .inr ⟨tx w, rfl, by rw [tx_len]; exact Nat.le_trans h (by decide), by rw [tx_len]; exact q⟩
end
theorem Ats.at {K : PySem.W.Frag} {H : Hp} : ∀ {ds : List Dt} {vs : List V} {i : Nat} {v : V}, Ats K H vs ds → vs[i]? = some v → ∃ d, ds[i]? = some d ∧ At K H v d
  | [], vs, i, v, h, e => by unfold Ats at h; subst h; simp at e
  | c :: ds, vs, i, v, h, e => by
    unfold Ats at h
    obtain ⟨x, us, rfl, h1, h2⟩ := h
    cases i with
    | zero =>
      have : x = v := by simpa using e
      subst this
      exact ⟨c, rfl, h1⟩
    | succ i => exact h2.at (by simpa using e)
theorem isum_take : ∀ {l : List Int} {i : Nat} {z : Int}, l[i]? = some z → (l.take (i + 1)).sum = (l.take i).sum + z := sum_take
theorem all_take_succ {α : Type} {p : α → Bool} {l : List α} {i : Nat} {x : α} (h : (l.take i).all p = true) (e : l[i]? = some x) (hx : p x = true) : (l.take (i + 1)).all p = true := by
  rw [List.take_add_one, e, List.all_append, h]
  simp [hx]
end BK

namespace BK
open PySem PySem.Spec PyProof.Rows L2

/-! ### stretches of a word again and again -/
def cyc (w : List Nat) (at_ many : Nat) : List Nat := ((rep w ((at_ % w.length + many) / w.length + 1)).drop (at_ % w.length)).take many
theorem cyc_get {w : List Nat} (hw : w ≠ []) (a m i : Nat) (h : i < m) : (cyc w a m)[i]? = w[(a + i) % w.length]? := by
  have hp : 0 < w.length := List.length_pos_iff.mpr hw
  unfold cyc
  rw [List.getElem?_take, if_pos h, List.getElem?_drop, rep_get]
  · rw [Nat.mod_add_mod]
  · have h1 := Nat.lt_div_mul_add (a := a % w.length + m) hp
    rw [Nat.add_mul, Nat.one_mul]
    omega
theorem drop_rep {w : List Nat} (hw : w ≠ []) {n a m : Nat} (h : a + m ≤ n * w.length) : ((rep w n).drop a).take m = cyc w a m := by
  apply List.ext_getElem?
  intro i
  by_cases hi : i < m
  · rw [cyc_get hw a m i hi, List.getElem?_take, if_pos hi, List.getElem?_drop, rep_get _ _ _ (by omega)]
  · have hp : 0 < w.length := List.length_pos_iff.mpr hw
    rw [List.getElem?_take, if_neg hi]
    unfold cyc
    rw [List.getElem?_take, if_neg hi]
theorem cyc_len {w : List Nat} (hw : w ≠ []) (a m : Nat) : (cyc w a m).length = m := by
  have hp : 0 < w.length := List.length_pos_iff.mpr hw
  unfold cyc
  rw [List.length_take, List.length_drop, rep_len]
  have h1 := Nat.lt_div_mul_add (a := a % w.length + m) hp
  rw [Nat.add_mul, Nat.one_mul]
  omega

theorem rep_mem {x : List Nat} {c : Nat} : ∀ {n : Nat}, c ∈ rep x n → c ∈ x
  | 0, h => by cases h
  | n + 1, h => by
    rw [rep_succ] at h
    rcases List.mem_append.mp h with h | h
    · exact h
    · exact rep_mem h
/-! ### spans -/
abbrev Span := Nat × Nat × List Nat
def spansOf : Nat → Pcs → List Span
  | _, [] => []
  | s, p :: ps => (s, s + p.1.length * p.2, p.1) :: spansOf (s + p.1.length * p.2) ps
theorem spansOf_len : ∀ (ps : Pcs) (s : Nat), (spansOf s ps).length = ps.length
  | [], _ => rfl
  | p :: ps, s => by unfold spansOf; rw [List.length_cons, spansOf_len ps, List.length_cons]
theorem spansOf_get : ∀ (ps : Pcs) (s i : Nat) (p), ps[i]? = some p → (spansOf s ps)[i]? = some (s + size (ps.take i), s + size (ps.take i) + p.1.length * p.2, p.1)
  | [], s, i, p, h => by simp at h
  | q :: ps, s, 0, p, h => by
    have : q = p := by simpa using h
    subst this
    simp [spansOf, size]
  | q :: ps, s, i + 1, p, h => by
    unfold spansOf
    rw [List.getElem?_cons_succ, spansOf_get ps _ i p (by simpa using h), List.take_succ_cons, size_cons]
    simp only [Nat.add_assoc]
theorem spansOf_at (ps : Pcs) {i : Nat} {x : Span} (h : (spansOf 0 ps)[i]? = some x) : ∃ p, ps[i]? = some p ∧ x = (size (ps.take i), size (ps.take i) + p.1.length * p.2, p.1) := by
  have hl := (List.getElem?_eq_some_iff.mp h).1
  rw [spansOf_len] at hl
  refine ⟨ps[i], List.getElem?_eq_getElem hl, ?_⟩
  have := spansOf_get ps 0 i ps[i] (List.getElem?_eq_getElem hl)
  rw [this] at h
  have := Option.some.inj h
  rw [← this]
  simp only [Nat.zero_add]
def SpanAt (H : Hp) (v : V) (x : Span) : Prop := ∃ a, v = .ref a ∧ H a = some (.tup [.int x.1, .int x.2.1, .str (tx x.2.2)])
def SpansAt (H : Hp) (a : Addr) (xs : List Span) : Prop := ∃ us, H a = some (.lst us) ∧ Paired (SpanAt H) us xs
theorem SpanAt.same {H H' : Hp} {v : V} {x : Span} (e : Same H H') (h : SpanAt H v x) : SpanAt H' v x := by
  obtain ⟨a, rfl, h⟩ := h
  exact ⟨a, rfl, e _ _ h⟩
theorem SpansAt.same {H H' : Hp} {a : Addr} {xs : List Span} (e : Same H H') (h : SpansAt H a xs) : SpansAt H' a xs := by
  obtain ⟨us, h1, h2⟩ := h
  exact ⟨us, e _ _ h1, prd_same (fun _ _ => SpanAt.same e) h2⟩
theorem SpanAt.upd {H : Hp} {v : V} {x : Span} {o : Addr} {us vs : List V} (ho : H o = some (.lst us)) (h : SpanAt H v x) : SpanAt (upd H o (.lst vs)) v x := by
  obtain ⟨a, rfl, h⟩ := h
  exact ⟨a, rfl, by rw [upd_ne (ne_of h ho (by intro z; cases z))]; exact h⟩
theorem prd_snoc {α β : Type} {R : α → β → Prop} {xs : List α} {ys : List β} {x : α} {y : β} (h : Paired R xs ys) (hxy : R x y) : Paired R (xs ++ [x]) (ys ++ [y]) := by
  induction h with
  | nil => exact .cons hxy .nil
  | cons a t ih => exact .cons a ih
theorem same_mut {H H' : Hp} {p : Addr} {o : HO} (e : Same H H') (h : H p = none) : Same H (upd H' p o) := fun a u ha => by
  rw [upd_ne (ne_of_none ha h)]
  exact e a u ha
/-- the spans' end -/
theorem spansOf_last {ps : Pcs} (h : ps ≠ []) : ∃ p s, ps.getLast? = some p ∧ (spansOf 0 ps).getLast? = some (s, size ps, p.1) := by
  have hp : 0 < ps.length := List.length_pos_iff.mpr h
  have e := List.getElem?_eq_getElem (l := ps) (i := ps.length - 1) (by omega)
  refine ⟨ps[ps.length - 1], size (ps.take (ps.length - 1)), by rw [List.getLast?_eq_getElem?, e], ?_⟩
  rw [List.getLast?_eq_getElem?, spansOf_len, spansOf_get ps 0 _ _ e, Nat.zero_add, ← size_take_succ ps e, show ps.length - 1 + 1 = ps.length by omega, List.take_length]

/-! ### looks, counts, so-manieths of what is spelled -/
theorem spell_take_succ {ps : Pcs} {i : Nat} {p} (h : ps[i]? = some p) : spell (ps.take (i + 1)) = spell (ps.take i) ++ rep p.1 p.2 := by
  rw [List.take_add_one, h, spell_app]
  show _ ++ spell [p] = _
  rw [spell_cons, spell_nil, List.append_nil]
theorem look_app (A B : List Nat) (p m : Nat) : ((A ++ B).drop p).take m = (A.drop p).take m ++ (B.drop (max A.length p - A.length)).take (min (A.length + B.length) (p + m) - max A.length p) := by
  rw [List.drop_append, List.take_append, List.length_drop]
  congr 1
  rw [show max A.length p - A.length = p - A.length by omega]
  by_cases h : m - (A.length - p) ≤ B.length - (p - A.length)
  · congr 1
    omega
  · rw [List.take_of_length_le (by rw [List.length_drop]; omega), List.take_of_length_le (by rw [List.length_drop]; omega)]
theorem count_app (A B : List Nat) (c m : Nat) : ((A ++ B).take m).count c = (A.take m).count c + (B.take (min (A.length + B.length) m - A.length)).count c := by
  rw [List.take_append, List.count_append]
  congr 2
  by_cases h : m - A.length ≤ B.length
  · congr 1
    omega
  · rw [List.take_of_length_le (by omega), List.take_of_length_le (by omega)]
/-- the places of a sign -/
def pos (w : List Nat) (c : Nat) : List Nat := (List.range w.length).filter fun i => w[i]? == some c
def IsNth (l : List Nat) (c k i : Nat) : Prop := l[i]? = some c ∧ (l.take i).count c = k
theorem posTo (w : List Nat) (c : Nat) : ∀ n, n ≤ w.length → ((List.range n).filter fun i => w[i]? == some c).length = (w.take n).count c ∧
    ∀ k i, ((List.range n).filter fun i => w[i]? == some c)[k]? = some i → IsNth w c k i
  | 0, _ => ⟨by simp, fun k i h => by simp at h⟩
  | n + 1, hn => by
    obtain ⟨ih1, ih2⟩ := posTo w c n (by omega)
    rw [List.range_succ, List.filter_append]
    have hg : w[n]? = some w[n] := List.getElem?_eq_getElem (by omega)
    by_cases hc : w[n] = c
    · have e : (List.filter (fun i => w[i]? == some c) [n]) = [n] := by
        rw [List.filter_cons, hg, hc]
        simp
      rw [e]
      have hcount : (w.take (n + 1)).count c = (w.take n).count c + 1 := by
        rw [List.take_add_one, hg, List.count_append, hc]
        simp
      refine ⟨by rw [List.length_append, ih1, hcount]; rfl, fun k i h => ?_⟩
      by_cases hk : k < ((List.range n).filter fun i => w[i]? == some c).length
      · rw [List.getElem?_append_left hk] at h
        exact ih2 k i h
      · rw [List.getElem?_append_right (by omega)] at h
        have hk0 : k - ((List.range n).filter fun i => w[i]? == some c).length = 0 := by
          have := (List.getElem?_eq_some_iff.mp h).1
          simp at this
          omega
        rw [hk0] at h
        have hi : n = i := by simpa using h
        subst hi
        refine ⟨by rw [hg, hc], ?_⟩
        rw [← ih1]
        omega
    · have e : (List.filter (fun i => w[i]? == some c) [n]) = [] := by
        rw [List.filter_cons, hg]
        simp [hc]
      rw [e, List.append_nil]
      have hcount : (w.take (n + 1)).count c = (w.take n).count c := by
        rw [List.take_add_one, hg, List.count_append]
        simp [hc]
      exact ⟨by rw [ih1, hcount], ih2⟩
theorem pos_len (w : List Nat) (c : Nat) : (pos w c).length = w.count c := by
  have := (posTo w c w.length (Nat.le_refl _)).1
  rw [List.take_length] at this
  exact this
theorem pos_get {w : List Nat} {c k i : Nat} (h : (pos w c)[k]? = some i) : IsNth w c k i := (posTo w c w.length (Nat.le_refl _)).2 k i h
theorem nth_rep {w : List Nat} {c q r i n : Nat} (h : IsNth w c r i) (hq : q < n) : IsNth (rep w n) c (q * w.count c + r) (q * w.length + i) := by
  have hi := (List.getElem?_eq_some_iff.mp h.1).1
  have e : n = q + ((n - q - 1) + 1) := by omega
  rw [e, rep_add, rep_succ]
  constructor
  · rw [List.getElem?_append_right (by rw [rep_len]; omega), rep_len, show q * w.length + i - q * w.length = i by omega, List.getElem?_append_left hi]
    exact h.1
  · rw [List.take_append, rep_len, List.count_append, List.take_of_length_le (by rw [rep_len]; omega), rep_count, show q * w.length + i - q * w.length = i by omega, List.take_append_of_le_length (by omega), h.2]
theorem nth_app_right {A B : List Nat} {c k i : Nat} (h : IsNth B c k i) : IsNth (A ++ B) c (A.count c + k) (A.length + i) := by
  constructor
  · rw [List.getElem?_append_right (by omega), show A.length + i - A.length = i by omega]
    exact h.1
  · rw [List.take_append, List.count_append, List.take_of_length_le (by omega), show A.length + i - A.length = i by omega, h.2]
theorem nth_app_left {A B : List Nat} {c k i : Nat} (h : IsNth A c k i) : IsNth (A ++ B) c k i := by
  have hi := (List.getElem?_eq_some_iff.mp h.1).1
  exact ⟨by rw [List.getElem?_append_left hi]; exact h.1, by rw [List.take_append_of_le_length (by omega)]; exact h.2⟩
theorem sum_le_len : ∀ (ss : List (List Nat)), (ss.map (·.length)).sum = ss.flatten.length
  | [] => rfl
  | a :: r => by rw [List.map_cons, List.sum_cons, sum_le_len r, List.flatten_cons, List.length_append]
end BK

namespace BK
open PySem PySem.Spec PyProof.Rows L2

/-! ### two rows of letters that go round -/
theorem two_rounds {u v : Nat → Option Nat} {p q low high : Nat} (hp : 0 < p) (hq : 0 < q) (hu : ∀ i, low ≤ i → i + p < high → u (i + p) = u i) (hv : ∀ i, low ≤ i → i + q < high → v (i + q) = v i)
    (h : ∀ i, low ≤ i → i < low + p + q → i < high → u i = v i) : ∀ n i, i ≤ n → low ≤ i → i < high → u i = v i
  | 0, i, hn, hl, hh => h i hl (by omega) hh
  | n + 1, i, hn, hl, hh => by
    by_cases hi : i < low + p + q
    · exact h i hl hi hh
    · have ih := two_rounds hp hq hu hv h n
      have e1 : u i = u (i - p) := by
        have := hu (i - p) (by omega) (by omega)
        rwa [show i - p + p = i by omega] at this
      have e2 := ih (i - p) (by omega) (by omega) (by omega)
      have e3 : v (i - p) = v (i - p - q) := by
        have := hv (i - p - q) (by omega) (by omega)
        rwa [show i - p - q + q = i - p by omega] at this
      have e4 := ih (i - p - q) (by omega) (by omega) (by omega)
      have e5 : u (i - q) = u (i - p - q) := by
        have := hu (i - p - q) (by omega) (by omega)
        rwa [show i - p - q + p = i - q by omega] at this
      have e6 := ih (i - q) (by omega) (by omega) (by omega)
      have e7 : v i = v (i - q) := by
        have := hv (i - q) (by omega) (by omega)
        rwa [show i - q + q = i by omega] at this
      rw [e1, e2, e3, ← e4, ← e5, e6, e7]
/-- between two ends a text is one word again and again, or has ended -/
def Round (A : List Nat) (low high : Nat) : Prop := ∃ p, 0 < p ∧ p ≤ 60 ∧ ∀ i, low ≤ i → i + p < high → A[i + p]? = A[i]?
theorem round_of : ∀ (ps : Pcs) (low high : Nat), (∀ x ∈ ps, x.1 ≠ [] ∧ x.1.length ≤ 60) → low < high → (∀ k, k < ps.length → size (ps.take (k + 1)) ≤ low ∨ high ≤ size (ps.take (k + 1))) →
    size ps ≤ low ∨ (high ≤ size ps ∧ Round (spell ps) low high)
  | [], low, high, _, _, _ => .inl (Nat.zero_le _)
  | x :: ps, low, high, hg, hlh, he => by
    have hx := hg x (List.mem_cons_self ..)
    have hp : 0 < x.1.length := List.length_pos_iff.mpr hx.1
    have e0 : size ((x :: ps).take (0 + 1)) = x.1.length * x.2 := by simp [size]
    have hmul : x.2 * x.1.length = x.1.length * x.2 := Nat.mul_comm _ _
    by_cases hl : low < x.1.length * x.2
    · have h1 := he 0 (by simp)
      rw [e0] at h1
      have h2 : high ≤ x.1.length * x.2 := by omega
      refine .inr ⟨by rw [size_cons]; omega, x.1.length, hp, hx.2, fun i h3 h4 => ?_⟩
      rw [spell_cons, List.getElem?_append_left (by rw [rep_len, hmul]; omega), List.getElem?_append_left (by rw [rep_len, hmul]; omega), rep_get _ _ _ (by rw [hmul]; omega), rep_get _ _ _ (by rw [hmul]; omega), Nat.add_mod_right]
    · have ih := round_of ps (low - x.1.length * x.2) (high - x.1.length * x.2) (fun y hy => hg y (List.mem_cons_of_mem _ hy)) (by omega) (fun k hk => by
        have := he (k + 1) (by rw [List.length_cons]; omega)
        rw [List.take_succ_cons, size_cons] at this
        omega)
      rcases ih with ih | ⟨ih1, p, ih2, ih3, ih4⟩
      · exact .inl (by rw [size_cons]; omega)
      · refine .inr ⟨by rw [size_cons]; omega, p, ih2, ih3, fun i h3 h4 => ?_⟩
        have := ih4 (i - x.1.length * x.2) (by omega) (by omega)
        rw [spell_cons, List.getElem?_append_right (by rw [rep_len, hmul]; omega), List.getElem?_append_right (by rw [rep_len, hmul]; omega), rep_len, hmul]
        rw [show i + p - x.1.length * x.2 = i - x.1.length * x.2 + p by omega]
        exact this
/-- told so far alike, and so on the next stretch: alike to the next end -/
theorem alike_on {A B : List Nat} {low high : Nat} (hlh : low ≤ high) (h0 : A.take low = B.take low)
    (hA : A.length ≤ low ∨ (high ≤ A.length ∧ Round A low high)) (hB : B.length ≤ low ∨ (high ≤ B.length ∧ Round B low high))
    (h : (A.drop low).take (min (high - low) 120) = (B.drop low).take (min (high - low) 120)) : A.take high = B.take high := by
  by_cases he : low = high
  · rw [← he]
    exact h0
  have hlt : low < high := by omega
  have hl := congrArg List.length h
  rw [List.length_take, List.length_take, List.length_drop, List.length_drop] at hl
  rcases hA with hA | ⟨hA, p, hp, hp2, hpA⟩
  · rcases hB with hB | ⟨hB, _⟩
    · rw [List.take_of_length_le hA, List.take_of_length_le hB] at h0
      rw [h0]
    · omega
  · rcases hB with hB | ⟨hB, q, hq, hq2, hqB⟩
    · omega
    · have hag : ∀ i, low ≤ i → i < low + p + q → i < high → A[i]? = B[i]? := fun i h1 h2 h3 => by
        have e := congrArg (fun l => l[i - low]?) h
        simp only [List.getElem?_take, List.getElem?_drop] at e
        rw [if_pos (by omega), if_pos (by omega), show low + (i - low) = i by omega] at e
        exact e
      have hall := two_rounds (u := fun i => A[i]?) (v := fun i => B[i]?) hp hq hpA hqB hag
      apply List.ext_getElem?
      intro i
      rw [List.getElem?_take, List.getElem?_take]
      by_cases hi : i < high
      · rw [if_pos hi, if_pos hi]
        by_cases hil : i < low
        · have e := congrArg (fun l => l[i]?) h0
          simp only [List.getElem?_take] at e
          rw [if_pos hil, if_pos hil] at e
          exact e
        · exact hall i i (Nat.le_refl _) (by omega) hi
      · rw [if_neg hi, if_neg hi]
/-- the first place at which two rows are unlike -/
def Unlike (A B : List Nat) (i : Nat) : Prop := A.take i = B.take i ∧ A[i]? ≠ B[i]?
theorem Unlike.symm {A B : List Nat} {i : Nat} (h : Unlike A B i) : Unlike B A i := ⟨h.1.symm, h.2.symm⟩
theorem Unlike.uniq {A B : List Nat} {i j : Nat} (h : Unlike A B i) (k : Unlike A B j) : i = j := by
  have key : ∀ {i j : Nat}, Unlike A B i → Unlike A B j → ¬ i < j := fun {i j} h k hlt => by
    have e := congrArg (fun l => l[i]?) k.1
    simp only [List.getElem?_take] at e
    rw [if_pos hlt, if_pos hlt] at e
    exact h.2 e
  have h1 := key h k
  have h2 := key k h
  omega
theorem Unlike.ne {A B : List Nat} {i : Nat} (h : Unlike A B i) : A ≠ B := fun z => h.2 (by rw [z])
theorem Unlike.le {A B : List Nat} {i : Nat} (h : Unlike A B i) : i ≤ max A.length B.length := by
  by_cases hi : i ≤ max A.length B.length
  · exact hi
  · exact absurd (by rw [List.getElem?_eq_none (by omega), List.getElem?_eq_none (by omega)]) h.2
theorem unlike_on {A B : List Nat} {low many at_ : Nat} (h0 : A.take low = B.take low) (h : Unlike ((A.drop low).take many) ((B.drop low).take many) at_) : Unlike A B (low + at_) := by
  obtain ⟨h1, h2⟩ := h
  have hlt : at_ < many := by
    by_cases hm : at_ < many
    · exact hm
    · refine absurd ?_ h2
      rw [List.getElem?_eq_none (by rw [List.length_take]; omega), List.getElem?_eq_none (by rw [List.length_take]; omega)]
  rw [List.take_take, List.take_take, Nat.min_eq_left (by omega)] at h1
  rw [List.getElem?_take, List.getElem?_take, if_pos hlt, if_pos hlt, List.getElem?_drop, List.getElem?_drop] at h2
  refine ⟨?_, h2⟩
  rw [List.take_add, List.take_add, h0, h1]
end BK

namespace BK
open PySem PySem.Spec PyProof.Rows L2

/-! ## defs that ask for a repr: known is that no repr is under way around them -/
structure FnG (P : Program) (w : World) (K : PySem.W.Frag) (mg : Str → Option Value) (base : Heap) (C : CXT) (k : Nat) (f : Addr) (fd : FuncData) (ps : List Str) (sp : Sp) : Prop where
  ln : ∀ vs H Q E, sp vs H Q E → vs.length = ps.length
  go : ∀ (A : Around) (out : List Env) (s : Shared) (H : Hp) (ar : Args) (us : List Value) (vs : List V) (Q : VK) (E : XK), A.guards = some [] → Room k A → Env0 P w K mg base A out s H →
    BindsTo s fd ar (ps.zip us) → Vals vs us → sp vs H Q E → codeAny (model P w) A (.call (.ref f) ar) (CR C out P w H s Q E) s
section
variable {P : Program} {w : World} {K : PySem.W.Frag} {mg : Str → Option Value} {base : Heap} {C : CXT} {k : Nat} {f : Addr} {fd : FuncData} {ps : List Str} {sp : Sp}
theorem FnG.up {j : Nat} (F : FnG P w K mg base C j f fd ps sp) (h : j ≤ k) : FnG P w K mg base C k f fd ps sp :=
  ⟨F.ln, fun A out s H ar us vs Q E hg hr => F.go A out s H ar us vs Q E hg (hr.mono h)⟩
/-- its body keeps the promise -/
theorem fnG_of {nm ql : Str} {pa : Arguments} {bd : List Stmt} {sc : Scope} {dv kv dc pm cv ct oc : Value} {an od : Option Addr} {sl : Array (Option Value)} {N : List Str}
    (lk : K.lookup f = some ⟨oc, od, .func (PySem.W.fnOf nm ql pa bd sc dv kv dc pm an cv ct), sl⟩) (hc : PySem.W.codeIn K cv ql = true) (S : FnScope N ps sc) (ln : ∀ vs H Q E, sp vs H Q E → vs.length = ps.length)
    (hb : ∀ (A : Around) (out : List Env) (s : Shared) (H : Hp) (vs : List V) (Q : VK) (E : XK), A.guards = some [] → Room k (A.deeper (envOfC ql sc s.heap.objs.size f cv)) → sp vs H Q E →
      ∃ t, PSs (cxOf C P w K mg base N ql sc f cv A out s H E) bd t ∧ t { nx := fun _ H' => Q .non H', rt := Q } (start N vs) H) :
    FnG P w K mg base C (k + 1) f (PySem.W.fnOf nm ql pa bd sc dv kv dc pm an cv ct) ps sp := by
  refine ⟨ln, ?_⟩
  intro A out s H ar us vs Q E hg hr e0 hbd r hsp
  have hlen := ln _ _ _ _ hsp
  have hK : K.In s.heap := e0.mod.kin.keeps (fun b o e => (e0.bs b o e).1)
  have hlim : s.heap.NoLimit := e0.mod.nolimit.keeps (fun b o e => (e0.bs b o e).1)
  have hki : ∀ z ∈ ps.zip us, sc.names.lookup z.1 = some .local ∨ (sc.names.lookup z.1 = some .cell ∧ ((cellsFrom (s.heap.objs.size + 1) sc.names []).lookup z.1).isSome = true) := by
    rintro ⟨n, v⟩ hz
    rcases S.par n (List.of_mem_zip hz).1 with h | h
    · exact Or.inl h
    · exact Or.inr ⟨h, PySem.W.cellsFrom_some _ _ _ (Or.inl h)⟩
  refine codeAny_call_function hr.depth (hK _ _ lk) rfl S.co S.gen rfl (PySem.W.codeRec_of hK hc) (hbd _ _ _ _ ?_)
  refine wpAny_newFunctionEnv_cells S.kind hki (fun en hen sB xi => ?_)
  subst hen
  refine ⟨hlim.keeps xi.toInCall.keep, codeAny_func ?_⟩
  obtain ⟨t, ht, hq⟩ := hb A out s H vs Q E hg (hr.deeper _) hsp
  have J0 : Inv (cxOf C P w K mg base N ql sc f cv A out s H E) [] (start N vs) H sB := inv_start S hr.hd e0 hlen r xi
  refine wpAny_mono (ht.run [] sB (start N vs) H _ J0 hq) (fun fl sE hE => ?_) (fun e sE hE => hE)
  cases fl with
  | ret u =>
    obtain ⟨v, τ, HE, J, rv, q⟩ := hE
    exact ⟨v, HE, J.os, J.bare, J.base, J.hok, rv, q⟩
  | next =>
    obtain ⟨τ, HE, J, q⟩ := hE
    exact ⟨V.non, HE, J.os, J.bare, J.base, J.hok, (rfl : RelV .non Value.none), q⟩
  | brk => exact hE.elim fun _ z => z.elim fun _ z => z.2.elim
  | cont => exact hE.elim fun _ z => z.elim fun _ z => z.2.elim
end
section
variable {P : Program} {w : World} {K : PySem.W.Frag} {mg : Str → Option Value} {base : Heap}
theorem funG {x ql : Str} {st : Stmt} {f : Addr} {fd : FuncData} {N ps : List Str} {k : Nat} {sp : Sp} (F : Fun K x ql st f fd) (S : FnScope N ps (defScope st)) (ln : ∀ vs H Q E, sp vs H Q E → vs.length = ps.length)
    (hb : ∀ (cv : Value) (A : Around) (out : List Env) (s : Shared) (H : Hp) (vs : List V) (Q : VK) (E : XK), A.guards = some [] → Room k (A.deeper (envOfC ql (defScope st) s.heap.objs.size f cv)) → sp vs H Q E →
      ∃ t, PSs (cxOf CX0 P w K mg base N ql (defScope st) f cv A out s H E).nox (defBody st) t ∧ t { nx := fun _ H' => Q .non H', rt := Q } (start N vs) H) : FnG P w K mg base CX0 (k + 1) f fd ps sp := by
  obtain ⟨oc, od, kv, dc, pm, an, cv, ct, sl, rfl, lk, hc⟩ := F.ex
  exact fnG_of lk hc S ln fun A out s H vs Q E hg hr hsp => let ⟨t, h, q⟩ := hb cv A out s H vs Q E hg hr hsp; ⟨t, h.nox, q⟩
end
section
variable {X : Cx} {C : CXT} {k : Nat} {f : Addr} {fd : FuncData} {ps : List Str} {sp : Sp} {dvs : List V} {ds : List Value} {E : XK} {x : Str} {p pos : Pos} {e : Expr} {es : List Expr} {t : TA}
theorem run_G {pins : List (Addr × Obj)} {σ : L2.St} {H : Hp} {s : Shared} {Q : VK} {us : List Value} {vs : List V} (F : FnG X.prog X.w X.K X.mg X.base C k f fd ps sp) (hg : X.A.guards = some []) (hr : Room k X.A) (hb : Binds X.K fd ps ds) (hd : Vals dvs ds) (hx : Passes C X E)
    (I : L2.Inv X pins σ H s) (r : Vals vs us) (h : sp (vs ++ dvs) H Q E) : wpAny (model X.prog X.w) X.A (call (.ref f) us) (EP X pins σ Q) X.xe s := by
  have rr : Vals (vs ++ dvs) (us ++ ds) := r.append hd
  have hl : (us ++ ds).length = ps.length := rr.length.symm.trans (F.ln _ _ _ _ h)
  refine wpAny_call (codeAny_mono (F.go X.A X.stack s H ⟨us, []⟩ (us ++ ds) (vs ++ dvs) Q E hg hr I.env0 (hb s us I.kIn hl) rr h) (fun r sE hE => ?_))
  match r, hE with
  | .error e, hE => exact hx pins σ H s e sE I hE
  | .ok (.ret u), hE => exact I.after hE
theorem pe_callG (F : FnG X.prog X.w X.K X.mg X.base C k f fd ps sp) (hg : X.A.guards = some []) (hr : Room k X.A) (hgl : Gl X x) (hm : X.mg x = some (.ref f)) (hk : PySem.W.keepIn X.K (.ref f) = true) (hb : Binds X.K fd ps ds) (hd : Vals dvs ds) (hx : Passes C X E)
    (ha : PA X (e :: es) t) (hdb : (x == ("__debug__" : Str)) = false := by decide) (he : starEach (e :: es) X.env = (false, eval e X.env) :: starEach es X.env := by rfl) (hpl : (backTo pos (starEach es X.env)).any (·.1) = false := by rfl) :
    PE X (.Call (.Name x p) (e :: es) [] pos) (tCall sp dvs E t) := by
  constructor
  intro pins s σ H Q I h
  refine wpAny_Call_Name_kw (ld_glob I hgl hm ?_ hdb)
  exact PySem.W.callWith_K (h₀ := X.base) I.ok.mod.kin hk (thn (ha.run pos pins s σ H _ I h) (fun us sB ⟨vs, HB, J, r, q⟩ => ⟨J.kIn, run_G F hg hr hb hd hx J r q⟩)) he hpl
end

/-! ## the law's promise at the heap behind the top -/
/-- a law that may ask for reprs, from what its def promises -/
theorem law_G {P : Program} {w : World} {K : PySem.W.Frag} {mg mb : Str → Option Value} {C : CXT} {k : Nat} {fa a : Addr} {fd : FuncData} {x : Str} {sp : Sp} {s : Shared} {vs : List Value} {ns : List Int}
    (KX : K.In s.heap) (hns : s.heap.Ns mainGlobals mg) (hb : s.heap.Ns builtinsNs mb) (hbb : ∀ x : Str, x ≠ "__name__" → mb x = bootBuiltins x) (hlim : s.heap.NoLimit) (hgen : s.gens = #[])
    (ha : s.heap.get? a = some { cls := .type "list", data := .seq vs.toArray }) (hi : IntsAre vs ns) (hl : ns.length ≤ sizeLine) (hr : Room k callerA)
    (F : ∀ b : Heap, K.In b → b.Ns mainGlobals mg → FnG P w K mg b C k fa fd [x] sp) (hbind : ∀ (s : Shared) (u : Value), BindsTo s fd ⟨[u], []⟩ [(x, u)])
    (hsp : ∀ H : Hp, Only H → SqL K H a (ns.map V.int) → sp [.ref a] H (fun v _ => v = .bl true) fun _ _ _ => False)
    (hC : ∀ H e s', C [] H s (fun _ _ _ => False) e s' → False) :
    codeAny (model P w) callerA (.call (.ref fa) ⟨[.ref a], []⟩) (fun r s' => r = .ok (.ret (.bool true)) ∧ OldK s.heap s'.heap ∧ s'.os = s.os ∧ AllBare s'.gens) s := by
  have rv := vals_ints hi
  have lv := hi.length
  -- H tracks nothing, or the script alone
  suffices core : ∀ H : Hp, Only H → SqL K H a (ns.map V.int) → HOk P w H s.heap → (∀ b, H b ≠ none → b = a) → (H a ≠ none → K.lookup a = none) →
      codeAny (model P w) callerA (.call (.ref fa) ⟨[.ref a], []⟩) (fun r s' => r = .ok (.ret (.bool true)) ∧ OldK s.heap s'.heap ∧ s'.os = s.os ∧ AllBare s'.gens) s by
    cases hk : K.lookup a with
    | some o =>
      have e := (KX a o hk).symm.trans ha
      cases e
      exact core (fun _ => none) (fun _ => .inl rfl) (.inr ⟨_, vs.toArray, _, hk, rfl, rfl, rfl, by rw [List.size_toArray, lv]; exact hl, by simpa using rv⟩) (fun b u z => nomatch z) (fun b z => absurd rfl z) (fun z => absurd rfl z)
    | none =>
      let o : HO := .frz { cls := .type "list", data := .seq vs.toArray } (.lst (ns.map V.int))
      have at_a : ∀ {b u}, upd (fun _ => none) a o b = some u → b = a ∧ u = o := fun {b u} z => by
        by_cases hba : b = a
        · subst hba
          rw [upd_same] at z
          exact ⟨rfl, (Option.some.inj z).symm⟩
        · rw [upd_ne hba] at z
          exact nomatch z
      have uo : upd (fun _ => none) a o a = some (.frz { cls := .type "list", data := .seq vs.toArray } (.lst (ns.map V.int))) := upd_same
      refine core (upd (fun _ => none) a o) (fun b => ?_) (.inl (.inr ⟨_, uo⟩)) (fun b u z => ?_) (fun b z => ?_) (fun _ => hk)
      · by_cases hba : b = a
        · subst hba
          exact Or.inr ⟨_, _, uo⟩
        · exact .inl (upd_ne hba)
      · obtain ⟨rfl, rfl⟩ := at_a z
        exact ⟨ha, by rw [List.length_map]; exact hl, vs, _, rv, ha⟩
      · cases q : upd (fun _ => none) a o b with
        | none => exact absurd q z
        | some u => exact (at_a q).1
  intro H hO hS hok hA hKa
  have low : ∀ {b : Addr} {o : Obj}, s.heap.get? b = some o → (H b ≠ none → False) → (hidT s.heap H).get? b = some o := fun {b o} e n => by
    refine hidT_get e ?_
    cases q : H b with
    | none => rfl
    | some u => exact (n (by rw [q]; exact nofun)).elim
  have nsK : ∀ {b : Addr} {m : Str → Option Value}, s.heap.Ns b m → (hidT s.heap H).Ns b m := by
    rintro b m ⟨o, es, ep, e, d, r⟩
    refine ⟨o, es, ep, low e (fun n => ?_), d, r⟩
    have eb := hA b n
    subst eb
    have eo := e.symm.trans ha
    cases eo
    cases (show Data.seq vs.toArray _ = Data.dict es ep from d)
  have hKb : K.In (hidT s.heap H) := fun b o e => low (KX b o e) (fun n => by
    have eb := hA b n
    subst eb
    rw [hKa n] at e
    cases e)
  obtain ⟨mc, hm1, hm2⟩ := hlim
  have hM : Mod K mg (hidT s.heap H) := ⟨hKb, nsK hns, ⟨mb, nsK hb, hbb⟩, mc, nsK hm1, hm2⟩
  have e0 : Env0 P w K mg (hidT s.heap H) callerA [] s H := ⟨rfl, hM, fun b o e => of_hidT e, Nat.le_of_eq (hidT_size _ _), trivial, fun b hb => (List.not_mem_nil hb).elim, hok, .of_eq hgen⟩
  refine codeAny_mono ((F _ hKb (nsK hns)).go callerA [] s H ⟨[.ref a], []⟩ [.ref a] [.ref a] _ _ rfl hr e0 (hbind s (.ref a)) (.cons rfl .nil) (hsp H hO hS)) (fun r s' h => ?_)
  match r, h with
  | .error e, h => exact (hC H e s' h).elim
  | .ok (.ret u), h =>
    obtain ⟨v, HE, os, bare, un, hokE, rr, q⟩ := h
    obtain rfl : v = .bl true := q
    obtain rfl : u = Value.bool true := rr
    refine ⟨rfl, OldK.of_keep (fun b o e => ?_), os, bare⟩
    rcases hO b with z | ⟨ob, xs, z⟩
    · exact un.keep b o e z (fun z => (List.not_mem_nil z).elim) (fun z => (List.not_mem_nil z).elim)
    · have e1 := (hok b _ z).1
      have e2 := (hokE b _ (un.frzs b ob _ z)).1
      rw [e] at e1
      cases e1
      exact e2
theorem walk_G {l : PySem.W.OpenLaw} {n k : Nat} {q : Program} {lo : List Str} {XP : (Str → Option Value) → Heap → Prop} {YP : World → Heap → Prop} {d : DefRec} {K : Params → PySem.W.Frag} {C : World → CXT} {sp : World → Sp} {x : Str}
    (hn : l.most = some n) (hz : n ≤ sizeLine) (hdf : d.params.defaults = []) (hr : Room k callerA) (hY : ∀ (w : World) (h : Heap), YP w h → (K w.params).In h)
    (F : ∀ (w : World) (mg : Str → Option Value) (fa : Addr) (h : Heap), (K w.params).In h → h.Ns mainGlobals mg → mg d.name = some (.ref fa) →
      ∃ fd : FuncData, (∀ (s : Shared) (u : Value), BindsTo s fd ⟨[u], []⟩ [(x, u)]) ∧ ∀ b : Heap, (K w.params).In b → b.Ns mainGlobals mg → FnG l.prog w (K w.params) mg b (C w) k fa fd [x] (sp w))
    (hsp : ∀ (w : World) (H : Hp) (a : Addr) (ns : List Int), ns.length ≤ n → Only H → SqL (K w.params) H a (ns.map V.int) → sp w [.ref a] H (fun v _ => v = .bl true) fun _ _ _ => False)
    (hC : ∀ (w : World) (H : Hp) (s : Shared) (e : Value) (s' : Shared), C w [] H s (fun _ _ _ => False) e s' → False) :
    PySem.W.WalkO q lo XP YP l.row.toRowW d [] (fun f vs => PySem.call f vs) := by
  refine Att.attach_call hn hdf ?_
  intro w s0 s1 mg mb fa o pm cd doc a vs ns G Y ho hd hcd hmg hob hin hle hgn
  obtain ⟨fd, hb, hF⟩ := F w mg fa _ (hY w _ Y) G.T.g hmg
  exact law_G (hY w _ Y) G.T.g G.T.b G.T.builtins G.T.nolimit hgn hob hin (Nat.le_trans hle hz) hr hF hb (fun H hO hS => hsp w H a ns hle hO hS) (fun H e s' => hC w H s1 e s')
end BK

namespace BK
open PySem PySem.Spec PyProof.Rows L2

/-! ## reprs of handed things -/
mutual
def Dt.py : Dt → PyData
  | .non => .none
  | .bl b => .bool b
  | .int i => .int i
  | .str w => .str (tx w)
  | .lst ds => .list (pyAll ds)
  | .tup ds => .tuple (pyAll ds)
  | .dic => .dict []
def pyAll : List Dt → List PyData
  | [] => []
  | d :: ds => d.py :: pyAll ds
end
mutual
/-- what has a short repr; no dict within -/
def Fits : Dt → Prop
  | .non => True
  | .bl _ => True
  | .int i => i.natAbs < 10 ^ 47
  | .str w => ∀ c ∈ w, c < 4294967296
  | .lst ds => FitsAll ds
  | .tup ds => FitsAll ds
  | .dic => False
def FitsAll : List Dt → Prop
  | [] => True
  | d :: ds => Fits d ∧ FitsAll ds
end
mutual
def deep : Dt → Nat
  | .lst ds => deepAll ds + 1
  | .tup ds => deepAll ds + 1
  | .dic => 1
  | _ => 0
def deepAll : List Dt → Nat
  | [] => 0
  | d :: ds => max (deep d) (deepAll ds)
end
mutual
def bulk : Dt → Nat
  | .str w => w.length
  | .lst ds => bulkAll ds
  | .tup ds => bulkAll ds
  | _ => 0
def bulkAll : List Dt → Nat
  | [] => 0
  | d :: ds => bulk d + 1 + bulkAll ds
end
theorem fitsAll_of : ∀ {ds : List Dt}, (∀ d ∈ ds, Fits d) → FitsAll ds
  | [], _ => by unfold FitsAll; trivial
  | d :: ds, h => by unfold FitsAll; exact ⟨h d (List.mem_cons_self ..), fitsAll_of fun x hx => h x (List.mem_cons_of_mem _ hx)⟩
theorem deepAll_le {n : Nat} : ∀ {ds : List Dt}, (∀ d ∈ ds, deep d ≤ n) → deepAll ds ≤ n
  | [], _ => by unfold deepAll; exact Nat.zero_le _
  | d :: ds, h => by
    unfold deepAll
    have h1 := h d (List.mem_cons_self ..)
    have h2 := deepAll_le (n := n) (ds := ds) fun x hx => h x (List.mem_cons_of_mem _ hx)
    omega
theorem bulkAll_le {n : Nat} : ∀ {ds : List Dt}, (∀ d ∈ ds, bulk d ≤ n) → bulkAll ds ≤ ds.length * (n + 1)
  | [], _ => by unfold bulkAll; exact Nat.zero_le _
  | d :: ds, h => by
    unfold bulkAll
    have h1 := h d (List.mem_cons_self ..)
    have h2 := bulkAll_le (n := n) (ds := ds) fun x hx => h x (List.mem_cons_of_mem _ hx)
    rw [List.length_cons, Nat.add_mul, Nat.one_mul]
    omega
mutual
theorem depth_py : ∀ d : Dt, d.py.depth = deep d
  | .non => by simp only [Dt.py, PyData.depth, deep]
  | .bl _ => by simp only [Dt.py, PyData.depth, deep]
  | .int _ => by simp only [Dt.py, PyData.depth, deep]
  | .str _ => by simp only [Dt.py, PyData.depth, deep]
  | .lst ds => by simp only [Dt.py, PyData.depth, deep, depth_all ds]
  | .tup ds => by simp only [Dt.py, PyData.depth, deep, depth_all ds]
  | .dic => by simp only [Dt.py, PyData.depth, PyData.depthKv, deep]
theorem depth_all : ∀ ds : List Dt, PyData.depthAll (pyAll ds) = deepAll ds
  | [] => by simp only [pyAll, PyData.depthAll, deepAll]
  | d :: ds => by simp only [pyAll, PyData.depthAll, deepAll, depth_py d, depth_all ds]
end
mutual
theorem bulk_py : ∀ d : Dt, d.py.bulk = bulk d
  | .non => by simp only [Dt.py, PyData.bulk, bulk]
  | .bl _ => by simp only [Dt.py, PyData.bulk, bulk]
  | .int _ => by simp only [Dt.py, PyData.bulk, bulk]
  | .str w => by simp only [Dt.py, PyData.bulk, bulk, tx, List.size_toArray]
  | .lst ds => by simp only [Dt.py, PyData.bulk, bulk, bulk_all ds]
  | .tup ds => by simp only [Dt.py, PyData.bulk, bulk, bulk_all ds]
  | .dic => by simp only [Dt.py, PyData.bulk, PyData.bulkKv, bulk]
theorem bulk_all : ∀ ds : List Dt, PyData.bulkAll (pyAll ds) = bulkAll ds
  | [] => by simp only [pyAll, PyData.bulkAll, bulkAll]
  | d :: ds => by simp only [pyAll, PyData.bulkAll, bulkAll, bulk_py d, bulk_all ds]
end
theorem int48 {i : Int} (h : i.natAbs < 10 ^ 47) : (PyData.shown (.int i)).length ≤ 48 := by
  show (Str.ofString (toString i)).length ≤ 48
  rw [PySem.ofString_length]
  exact int_text_length_le10 (k := 47) (by decide) h
theorem int_log {i : Int} (h : i.natAbs < 10 ^ 47) : i.natAbs.log2 < 1920 := by
  have h2 : i.natAbs < 2 ^ 160 := Nat.lt_of_lt_of_le h (by decide)
  by_cases h0 : i.natAbs = 0
  · rw [h0]
    decide
  · have := (Nat.log2_lt h0).mpr h2
    omega
mutual
theorem fits_short : ∀ d : Dt, Fits d → d.py.leavesShort 48 = true
  | .non, _ => by simp only [Dt.py, PyData.leavesShort]
  | .bl _, _ => by simp only [Dt.py, PyData.leavesShort]
  | .int i, h => by
    unfold Fits at h
    simp only [Dt.py, PyData.leavesShort, decide_eq_true_eq]
    exact int48 h
  | .str w, h => by
    unfold Fits at h
    simp only [Dt.py, PyData.leavesShort, tx_cps, List.all_eq_true, decide_eq_true_eq]
    exact fun c hc => h c hc
  | .lst ds, h => by
    unfold Fits at h
    simp only [Dt.py, PyData.leavesShort]
    exact fitsAll_short ds h
  | .tup ds, h => by
    unfold Fits at h
    simp only [Dt.py, PyData.leavesShort]
    exact fitsAll_short ds h
  | .dic, h => by unfold Fits at h; exact h.elim
theorem fitsAll_short : ∀ ds : List Dt, FitsAll ds → PyData.leavesShortAll 48 (pyAll ds) = true
  | [], _ => by simp only [pyAll, PyData.leavesShortAll]
  | d :: ds, h => by
    unfold FitsAll at h
    simp only [pyAll, PyData.leavesShortAll, Bool.and_eq_true]
    exact ⟨fits_short d h.1, fitsAll_short ds h.2⟩
end
mutual
theorem fits_show : ∀ d : Dt, Fits d → d.py.showable = true ∧ d.py.hasDict = false
  | .non, _ => by simp only [Dt.py, PyData.showable, PyData.hasDict, and_self]
  | .bl _, _ => by simp only [Dt.py, PyData.showable, PyData.hasDict, and_self]
  | .int i, h => by
    unfold Fits at h
    simp only [Dt.py, PyData.showable, PyData.hasDict, decide_eq_true_eq, and_true]
    exact int_log h
  | .str w, h => by simp only [Dt.py, PyData.showable, PyData.hasDict, and_self]
  | .lst ds, h => by
    unfold Fits at h
    simp only [Dt.py, PyData.showable, PyData.hasDict]
    exact fitsAll_show ds h
  | .tup ds, h => by
    unfold Fits at h
    simp only [Dt.py, PyData.showable, PyData.hasDict]
    exact fitsAll_show ds h
  | .dic, h => by unfold Fits at h; exact h.elim
theorem fitsAll_show : ∀ ds : List Dt, FitsAll ds → PyData.showableAll (pyAll ds) = true ∧ PyData.hasDictAll (pyAll ds) = false
  | [], _ => by simp only [pyAll, PyData.showableAll, PyData.hasDictAll, and_self]
  | d :: ds, h => by
    unfold FitsAll at h
    have h1 := fits_show d h.1
    have h2 := fitsAll_show ds h.2
    simp only [pyAll, PyData.showableAll, PyData.hasDictAll, h1.1, h1.2, h2.1, h2.2, Bool.and_self, Bool.or_self, and_self]
end
section
variable {X : Cx} {pins : List (Addr × Obj)} {σ : L2.St} {H : Hp} {s : Shared}
mutual
theorem reads_at (I : L2.Inv X pins σ H s) : ∀ (d : Dt) (v : V) (u : Value), At X.K H v d → RelV v u → Fits d → ∃ as, Reads s.heap u d.py as
  | .non, v, u, h, r, _ => by
    unfold At at h
    subst h
    cases (show u = Value.none from r)
    simp only [Dt.py]
    exact ⟨_, .none⟩
  | .bl b, v, u, h, r, _ => by
    unfold At at h
    subst h
    cases (show u = Value.bool b from r)
    simp only [Dt.py]
    exact ⟨_, .bool b⟩
  | .int i, v, u, h, r, _ => by
    unfold At at h
    subst h
    obtain ⟨t, rfl⟩ := r
    simp only [Dt.py]
    exact ⟨_, .int i t⟩
  | .str w, v, u, h, r, _ => by
    unfold At at h
    obtain ⟨rfl, _⟩ := h
    obtain ⟨t, rfl⟩ := r
    simp only [Dt.py]
    exact ⟨_, .str _ t⟩
  | .lst ds, v, u, h, r, f => by
    unfold At at h
    unfold Fits at f
    obtain ⟨a, xs, rfl, h1, h2⟩ := h
    cases (show u = Value.ref a from r)
    obtain ⟨its, rv, ⟨o, n, e1, e2, _, e3⟩, _⟩ := I.list h1
    obtain ⟨as, k⟩ := reads_ats I ds xs its h2 rv f
    simp only [Dt.py]
    exact ⟨_, .list e1 e2 e3 (by rw [List.toList_toArray]; exact k)⟩
  | .tup ds, v, u, h, r, f => by
    unfold At at h
    unfold Fits at f
    obtain ⟨a, xs, rfl, h1, h2⟩ := h
    cases (show u = Value.ref a from r)
    obtain ⟨its, rv, ⟨o, e1, e2, n, e3⟩, _⟩ := I.tuple h1
    obtain ⟨as, k⟩ := reads_ats I ds xs its h2 rv f
    simp only [Dt.py]
    exact ⟨_, .tuple e1 e2 e3 (by rw [List.toList_toArray]; exact k)⟩
  | .dic, v, u, h, r, f => by unfold Fits at f; exact f.elim
theorem reads_ats (I : L2.Inv X pins σ H s) : ∀ (ds : List Dt) (vs : List V) (us : List Value), Ats X.K H vs ds → Vals vs us → FitsAll ds → ∃ as, ReadsAll s.heap us (pyAll ds) as
  | [], vs, us, h, r, _ => by
    unfold Ats at h
    subst h
    cases r
    simp only [pyAll]
    exact ⟨_, .nil⟩
  | d :: ds, vs, us, h, r, f => by
    unfold Ats at h
    unfold FitsAll at f
    obtain ⟨v, ws, rfl, h1, h2⟩ := h
    cases r with
    | cons r1 r2 =>
      obtain ⟨a1, k1⟩ := reads_at I d v _ h1 r1 f.1
      obtain ⟨a2, k2⟩ := reads_ats I ds ws _ h2 r2 f.2
      simp only [pyAll]
      exact ⟨_, .cons k1 k2⟩
end
end
/-- a thing's repr -/
def shw (d : Dt) : Str := d.py.shown
def Neat (d : Dt) : Prop := Fits d ∧ deep d ≤ 60 ∧ bulk d ≤ 300000
theorem neat_size {d : Dt} (h : Neat d) : (shw d).length ≤ sizeLine := by
  have h1 := PyData.shown_le_bulk 48 (by decide) d.py (fits_short d h.1)
  rw [bulk_py] at h1
  have h2 : (48 + 2) * bulk d ≤ 50 * 300000 := Nat.mul_le_mul (Nat.le_refl _) h.2.2
  have h3 : sizeLine = 16777216 := by decide
  unfold shw
  omega
def rRepr (K : PySem.W.Frag) : List V → Hp → VK → Prop := fun xs H Q => ∃ (p : Addr) (d : Dt), xs = [.ref p] ∧ At K H (.ref p) d ∧ Neat d ∧ Q (.str (shw d)) H
theorem call_reprG {X : Cx} (hg : X.A.guards = some []) (hu : X.A.units + 64 < cLine) : CallR X (.builtin "repr") (rRepr X.K) := by
  intro pins s σ H xs us Q I r h
  obtain ⟨p, d, rfl, hat, hn, q⟩ := h
  obtain ⟨u, rfl, rp⟩ := vals1 r
  cases (show u = Value.ref p from rp)
  obtain ⟨as, rd⟩ := reads_at I d _ _ hat rfl hn.1
  have hs := fits_show d hn.1
  refine repr_of_reads' rd hs.1 (fun z => absurd z (by rw [hs.2]; exact Bool.false_ne_true)) hg (by rw [depth_py]; have := hn.2.1; omega) (fun _ _ e => e) (fun h' t tk hk => ?_) (neat_size hn)
  exact ⟨.str (shw d), H, I.kept (t' := tk) (fun b o e => hk b o e), ⟨t, rfl⟩, q⟩
end BK

namespace BK
open PySem PySem.Spec PyProof.Rows L2

/-! ## things, lists and tuples not told apart -/
mutual
def norm : Dt → Dt
  | .lst ds => .lst (normAll ds)
  | .tup ds => .lst (normAll ds)
  | .non => .non
  | .bl b => .bl b
  | .int i => .int i
  | .str w => .str w
  | .dic => .dic
def normAll : List Dt → List Dt
  | [] => []
  | d :: ds => norm d :: normAll ds
end
theorem normAll_map : ∀ ds : List Dt, normAll ds = ds.map norm
  | [] => by simp only [normAll, List.map_nil]
  | d :: ds => by simp only [normAll, List.map_cons, normAll_map ds]
mutual
theorem norm_norm : ∀ d : Dt, norm (norm d) = norm d
  | .lst ds => by simp only [norm, normAll_normAll ds]
  | .tup ds => by simp only [norm, normAll_normAll ds]
  | .non => by simp only [norm]
  | .bl b => by simp only [norm]
  | .int i => by simp only [norm]
  | .str w => by simp only [norm]
  | .dic => by simp only [norm]
theorem normAll_normAll : ∀ ds : List Dt, normAll (normAll ds) = normAll ds
  | [] => by simp only [normAll]
  | d :: ds => by simp only [normAll, norm_norm d, normAll_normAll ds]
end
theorem row_norm (d : Dt) : isRow (norm d) = isRow d := by cases d <;> simp only [norm, isRow]
theorem items_norm (d : Dt) : (norm d).items = d.items.map norm := by cases d <;> simp only [norm, Dt.items, normAll_map, List.map_nil]
theorem whole_norm (d : Dt) (lo : Int) : isWhole (norm d) lo = isWhole d lo := by cases d <;> simp only [norm, isWhole]
theorem within_norm (d : Dt) (lo hi : Int) : isWithin (norm d) lo hi = isWithin d lo hi := by cases d <;> simp only [norm, isWithin]
theorem word_norm (d : Dt) : isWord (norm d) = isWord d := by cases d <;> simp only [norm, isWord]
theorem plain_norm (d : Dt) : isPlain (norm d) = isPlain d := by cases d <;> simp only [norm, isPlain]
theorem piece_norm (d : Dt) : isPiece (norm d) = isPiece d := by
  unfold isPiece
  rw [row_norm, items_norm]
  congr 1
  match d.items with
  | [] => rfl
  | [a] => rfl
  | [a, b] =>
    show (isWord (norm a) && isWhole (norm b) 1) = (isWord a && isWhole b 1)
    rw [word_norm, whole_norm]
  | a :: b :: c :: r => rfl
theorem pcOf_norm (d : Dt) : pcOf (norm d) = pcOf d := by
  unfold pcOf
  rw [items_norm]
  match d.items with
  | [] => rfl
  | [a] => cases a <;> simp only [norm, List.map_cons, List.map_nil]
  | [a, b] => cases a <;> cases b <;> simp only [norm, List.map_cons, List.map_nil]
  | a :: b :: c :: r => cases a <;> cases b <;> simp only [norm, List.map_cons]
theorem pieceSize_norm (d : Dt) : pieceSize (norm d) = pieceSize d := by
  unfold pieceSize
  rw [items_norm]
  match d.items with
  | [] => rfl
  | [a] => cases a <;> simp only [norm, List.map_cons, List.map_nil]
  | [a, b] => cases a <;> cases b <;> simp only [norm, List.map_cons, List.map_nil]
  | a :: b :: c :: r => cases a <;> cases b <;> simp only [norm, List.map_cons]
theorem isText_norm (d : Dt) : isText (norm d) = isText d := by
  unfold isText
  rw [row_norm, items_norm, List.length_map, List.all_map, List.map_map]
  have e1 : (isPiece ∘ norm) = isPiece := funext piece_norm
  have e2 : (pieceSize ∘ norm) = pieceSize := funext pieceSize_norm
  rw [e1, e2]
theorem pcs_norm (d : Dt) : pcs (norm d) = pcs d := by
  unfold pcs
  rw [items_norm, List.map_map, show (pcOf ∘ norm) = pcOf from funext pcOf_norm]
theorem isText_like {d e : Dt} (h : norm e = norm d) : isText e = isText d := by rw [← isText_norm, h, isText_norm]
theorem pcs_like {d e : Dt} (h : norm e = norm d) : pcs e = pcs d := by rw [← pcs_norm, h, pcs_norm]
mutual
theorem fits_norm : ∀ d : Dt, Fits (norm d) = Fits d
  | .lst ds => by simp only [norm, Fits, fitsAll_norm ds]
  | .tup ds => by simp only [norm, Fits, fitsAll_norm ds]
  | .non => by simp only [norm]
  | .bl b => by simp only [norm]
  | .int i => by simp only [norm]
  | .str w => by simp only [norm]
  | .dic => by simp only [norm]
theorem fitsAll_norm : ∀ ds : List Dt, FitsAll (normAll ds) = FitsAll ds
  | [] => by simp only [normAll]
  | d :: ds => by simp only [normAll, FitsAll, fits_norm d, fitsAll_norm ds]
end
mutual
theorem deep_norm : ∀ d : Dt, deep (norm d) = deep d
  | .lst ds => by simp only [norm, deep, deepAll_norm ds]
  | .tup ds => by simp only [norm, deep, deepAll_norm ds]
  | .non => by simp only [norm]
  | .bl b => by simp only [norm]
  | .int i => by simp only [norm]
  | .str w => by simp only [norm]
  | .dic => by simp only [norm]
theorem deepAll_norm : ∀ ds : List Dt, deepAll (normAll ds) = deepAll ds
  | [] => by simp only [normAll]
  | d :: ds => by simp only [normAll, deepAll, deep_norm d, deepAll_norm ds]
end
mutual
theorem bulk_norm : ∀ d : Dt, bulk (norm d) = bulk d
  | .lst ds => by simp only [norm, bulk, bulkAll_norm ds]
  | .tup ds => by simp only [norm, bulk, bulkAll_norm ds]
  | .non => by simp only [norm]
  | .bl b => by simp only [norm]
  | .int i => by simp only [norm]
  | .str w => by simp only [norm]
  | .dic => by simp only [norm]
theorem bulkAll_norm : ∀ ds : List Dt, bulkAll (normAll ds) = bulkAll ds
  | [] => by simp only [normAll]
  | d :: ds => by simp only [normAll, bulkAll, bulk_norm d, bulkAll_norm ds]
end
theorem neat_like {d e : Dt} (h : norm e = norm d) (n : Neat d) : Neat e := by
  refine ⟨?_, ?_, ?_⟩
  · rw [← fits_norm, h, fits_norm]
    exact n.1
  · rw [← deep_norm, h, deep_norm]
    exact n.2.1
  · rw [← bulk_norm, h, bulk_norm]
    exact n.2.2

/-! ## new lists all through: their rooms -/
mutual
def AtF (H : Hp) : V → Dt → List Addr → Prop
  | v, .lst ds, fp => ∃ a xs fs, v = .ref a ∧ H a = some (.lst xs) ∧ AtFs H xs ds fs ∧ fp = a :: fs
  | v, .non, fp => v = .non ∧ fp = []
  | v, .bl b, fp => v = .bl b ∧ fp = []
  | v, .int i, fp => v = .int i ∧ fp = []
  | v, .str w, fp => v = .str (tx w) ∧ w.length ≤ 1000000 ∧ fp = []
  | _, .tup _, _ => False
  | _, .dic, _ => False
def AtFs (H : Hp) : List V → List Dt → List Addr → Prop
  | vs, [], fp => vs = [] ∧ fp = []
  | vs, d :: ds, fp => ∃ v us f fs, vs = v :: us ∧ AtF H v d f ∧ AtFs H us ds fs ∧ fp = f ++ fs
end
mutual
theorem AtF.same {H H' : Hp} : ∀ (d : Dt) (v : V) (fp : List Addr), AtF H v d fp → (∀ b o, b ∈ fp → H b = some o → H' b = some o) → AtF H' v d fp
  | .lst ds, v, fp, h, e => by
    unfold AtF at h ⊢
    obtain ⟨a, xs, fs, rfl, h1, h2, rfl⟩ := h
    exact ⟨a, xs, fs, rfl, e _ _ (List.mem_cons_self ..) h1, AtFs.same ds xs fs h2 (fun b o hb => e b o (List.mem_cons_of_mem _ hb)), rfl⟩
  | .non, v, fp, h, e => by unfold AtF at h ⊢; exact h
  | .bl b, v, fp, h, e => by unfold AtF at h ⊢; exact h
  | .int i, v, fp, h, e => by unfold AtF at h ⊢; exact h
  | .str w, v, fp, h, e => by unfold AtF at h ⊢; exact h
  | .tup _, v, fp, h, e => by unfold AtF at h; exact h.elim
  | .dic, v, fp, h, e => by unfold AtF at h; exact h.elim
theorem AtFs.same {H H' : Hp} : ∀ (ds : List Dt) (vs : List V) (fp : List Addr), AtFs H vs ds fp → (∀ b o, b ∈ fp → H b = some o → H' b = some o) → AtFs H' vs ds fp
  | [], vs, fp, h, e => by unfold AtFs at h ⊢; exact h
  | d :: ds, vs, fp, h, e => by
    unfold AtFs at h ⊢
    obtain ⟨v, us, f, fs, rfl, h1, h2, rfl⟩ := h
    exact ⟨v, us, f, fs, rfl, AtF.same d v f h1 (fun b o hb => e b o (List.mem_append_left _ hb)), AtFs.same ds us fs h2 (fun b o hb => e b o (List.mem_append_right _ hb)), rfl⟩
end
mutual
theorem AtF.at {K : PySem.W.Frag} {H : Hp} : ∀ (d : Dt) (v : V) (fp : List Addr), AtF H v d fp → At K H v d
  | .lst ds, v, fp, h => by
    unfold AtF at h
    obtain ⟨a, xs, fs, rfl, h1, h2, rfl⟩ := h
    unfold At
    exact ⟨a, xs, rfl, SqL.of h1, AtFs.at ds xs fs h2⟩
  | .non, v, fp, h => by unfold AtF at h; unfold At; exact h.1
  | .bl b, v, fp, h => by unfold AtF at h; unfold At; exact h.1
  | .int i, v, fp, h => by unfold AtF at h; unfold At; exact h.1
  | .str w, v, fp, h => by unfold AtF at h; unfold At; exact ⟨h.1, h.2.1⟩
  | .tup _, v, fp, h => by unfold AtF at h; exact h.elim
  | .dic, v, fp, h => by unfold AtF at h; exact h.elim
theorem AtFs.at {K : PySem.W.Frag} {H : Hp} : ∀ (ds : List Dt) (vs : List V) (fp : List Addr), AtFs H vs ds fp → Ats K H vs ds
  | [], vs, fp, h => by unfold AtFs at h; unfold Ats; exact h.1
  | d :: ds, vs, fp, h => by
    unfold AtFs at h
    obtain ⟨v, us, f, fs, rfl, h1, h2, rfl⟩ := h
    unfold Ats
    exact ⟨v, us, rfl, AtF.at d v f h1, AtFs.at ds us fs h2⟩
end
theorem AtFs.snoc {H : Hp} {v : V} {d : Dt} {f : List Addr} (hv : AtF H v d f) : ∀ {ds : List Dt} {vs : List V} {fs : List Addr}, AtFs H vs ds fs → AtFs H (vs ++ [v]) (ds ++ [d]) (fs ++ f)
  | [], vs, fs, h => by
    unfold AtFs at h
    obtain ⟨rfl, rfl⟩ := h
    show AtFs H [v] [d] f
    unfold AtFs
    exact ⟨v, [], f, [], rfl, hv, by unfold AtFs; exact ⟨rfl, rfl⟩, (List.append_nil f).symm⟩
  | c :: ds, vs, fs, h => by
    unfold AtFs at h
    obtain ⟨u, us, g, gs, rfl, h1, h2, rfl⟩ := h
    show AtFs H (u :: (us ++ [v])) (c :: (ds ++ [d])) _
    unfold AtFs
    exact ⟨u, us ++ [v], g, gs ++ f, rfl, h1, AtFs.snoc hv h2, List.append_assoc ..⟩
theorem Ats.snoc {K : PySem.W.Frag} {H : Hp} {v : V} {d : Dt} (hv : At K H v d) : ∀ {ds : List Dt} {vs : List V}, Ats K H vs ds → Ats K H (vs ++ [v]) (ds ++ [d])
  | [], vs, h => by
    unfold Ats at h
    subst h
    show Ats K H [v] [d]
    unfold Ats
    exact ⟨v, [], rfl, hv, by unfold Ats; rfl⟩
  | c :: ds, vs, h => by
    unfold Ats at h
    obtain ⟨u, us, rfl, h1, h2⟩ := h
    show Ats K H (u :: (us ++ [v])) (c :: (ds ++ [d]))
    unfold Ats
    exact ⟨u, us ++ [v], rfl, h1, Ats.snoc hv h2⟩

/-! ## isinstance of handed things -/
theorem At.tyx {K : PySem.W.Frag} {H : Hp} {v : V} {d : Dt} (h : At K H v d) : TyX K H v (.type d.ty) := by
  cases d with
  | non => unfold At at h; subst h; exact .base .non
  | bl b => unfold At at h; subst h; exact .base (.bl b)
  | int i => unfold At at h; subst h; exact .base (.int i)
  | str w => unfold At at h; obtain ⟨rfl, _⟩ := h; exact .base (.str _)
  | lst ds =>
    unfold At at h
    obtain ⟨a, xs, rfl, h1, _⟩ := h
    rcases h1 with (h1 | ⟨o, h1⟩) | ⟨o, its, n, h1, h2, _⟩
    · exact .base (.lst h1)
    · exact .base (.frz h1)
    · exact .kList h1 h2
  | tup ds =>
    unfold At at h
    obtain ⟨a, xs, rfl, h1, _⟩ := h
    rcases h1 with (h1 | ⟨o, h1⟩) | ⟨o, its, n, h1, h2, _⟩
    · exact .base (.tup h1)
    · exact .fTuple h1
    · exact .kTuple h1 h2
  | dic => unfold At at h; obtain ⟨a, rfl, h1⟩ := h; exact .base (.dK h1)
theorem kit_known : ∀ y ∈ knownTy, ∀ n ∈ ["list", "tuple", "bool", "str", "int"], kitB y n = some (decide (y = n) || (decide (y = "bool") && decide (n = "int"))) := by decide +kernel
theorem isi_ty {K : PySem.W.Frag} {H : Hp} {v : V} {d : Dt} {n : String} {Q : VK} (h : At K H v d) (hn : n ∈ ["list", "tuple", "bool", "str", "int"]) (q : Q (.bl (decide (d.ty = n) || (decide (d.ty = "bool") && decide (n = "int")))) H) : rIsi K [v, .ty n] H Q :=
  ⟨v, .ty n, .type d.ty, .type n, _, rfl, .ty n, h.tyx, kit_ty (kit_known _ (ty_known d) n hn), q⟩
theorem isRow_ty (d : Dt) : isRow d = (decide (d.ty = "list") || decide (d.ty = "tuple")) := by cases d <;> simp [isRow, Dt.ty]
theorem isi_row {K : PySem.W.Frag} {H : Hp} {v : V} {d : Dt} {t : Addr} {Q : VK} (h : At K H v d) (ht : H t = some (.tup [.ty "list", .ty "tuple"])) (q : Q (.bl (isRow d)) H) : rIsiT K [v, .ref t] H Q := by
  refine ⟨v, t, _, .type d.ty, _, _, rfl, ht, .cons (.ty "list") (.cons (.ty "tuple") .nil), h.tyx, ?_, q⟩
  rw [isRow_ty]
  refine kitAny_cons (kit_ty (kit_known _ (ty_known d) "list" (by decide))) (fun e => ?_) (fun e => ?_)
  · have e1 : decide (d.ty = "list") = false := by
      cases h : decide (d.ty = "list") with
      | false => rfl
      | true => rw [h] at e; cases e
    rw [e1, Bool.false_or]
    refine kitAny_cons (kit_ty (kit_known _ (ty_known d) "tuple" (by decide))) (fun e2 => ?_) (fun e2 => ?_)
    · have e3 : decide (d.ty = "tuple") = false := by
        cases h : decide (d.ty = "tuple") with
        | false => rfl
        | true => rw [h] at e2; cases e2
      rw [e3]
      rfl
    · rw [show (decide ("tuple" = "int")) = false from by decide, Bool.and_false, Bool.or_false] at e2
      exact e2
  · rw [show (decide ("list" = "int")) = false from by decide, Bool.and_false, Bool.or_false] at e
    rw [e]
    rfl

/-! ## rooms apart -/
mutual
theorem AtF.trk {H : Hp} : ∀ (d : Dt) (v : V) (fp : List Addr), AtF H v d fp → ∀ b ∈ fp, ∃ o, H b = some o
  | .lst ds, v, fp, h => by
    unfold AtF at h
    obtain ⟨a, xs, fs, rfl, h1, h2, rfl⟩ := h
    intro b hb
    rcases List.mem_cons.mp hb with rfl | hb
    · exact ⟨_, h1⟩
    · exact AtFs.trk ds xs fs h2 b hb
  | .non, v, fp, h => by unfold AtF at h; obtain ⟨_, rfl⟩ := h; exact fun b hb => (List.not_mem_nil hb).elim
  | .bl b, v, fp, h => by unfold AtF at h; obtain ⟨_, rfl⟩ := h; exact fun b hb => (List.not_mem_nil hb).elim
  | .int i, v, fp, h => by unfold AtF at h; obtain ⟨_, rfl⟩ := h; exact fun b hb => (List.not_mem_nil hb).elim
  | .str w, v, fp, h => by unfold AtF at h; obtain ⟨_, _, rfl⟩ := h; exact fun b hb => (List.not_mem_nil hb).elim
  | .tup _, v, fp, h => by unfold AtF at h; exact h.elim
  | .dic, v, fp, h => by unfold AtF at h; exact h.elim
theorem AtFs.trk {H : Hp} : ∀ (ds : List Dt) (vs : List V) (fp : List Addr), AtFs H vs ds fp → ∀ b ∈ fp, ∃ o, H b = some o
  | [], vs, fp, h => by unfold AtFs at h; obtain ⟨_, rfl⟩ := h; exact fun b hb => (List.not_mem_nil hb).elim
  | d :: ds, vs, fp, h => by
    unfold AtFs at h
    obtain ⟨v, us, f, fs, rfl, h1, h2, rfl⟩ := h
    intro b hb
    rcases List.mem_append.mp hb with hb | hb
    · exact AtF.trk d v f h1 b hb
    · exact AtFs.trk ds us fs h2 b hb
end
/-- the heap without one thing -/
def hid (p : Addr) (H : Hp) : Hp := fun b => if b = p then none else H b
theorem hid_ne {p b : Addr} {H : Hp} (h : b ≠ p) : hid p H b = H b := if_neg h
theorem hid_at {p b : Addr} {H : Hp} {o : HO} (h : hid p H b = some o) : b ≠ p ∧ H b = some o := by
  by_cases e : b = p
  · rw [show hid p H b = none from if_pos e] at h
    cases h
  · exact ⟨e, (if_neg e).symm.trans h⟩
theorem hid_same (p : Addr) (H : Hp) : Same (hid p H) H := fun _ _ h => (hid_at h).2
theorem hid_mono {p : Addr} {H H' : Hp} (e : Same H H') : Same (hid p H) (hid p H') := fun b o h => by
  obtain ⟨h1, h2⟩ := hid_at h
  rw [hid_ne h1]
  exact e b o h2
theorem hid_upd {p t : Addr} {H : Hp} {o : HO} (h : t ≠ p) : hid p (upd H t o) = upd (hid p H) t o := by
  funext b
  by_cases e : b = p
  · subst e
    rw [upd_ne (fun z => h z.symm)]
    show (if b = b then none else _) = (if b = b then none else _)
    rw [if_pos rfl, if_pos rfl]
  · rw [hid_ne e]
    by_cases e2 : b = t
    · subst e2
      rw [upd_same, upd_same]
    · rw [upd_ne e2, upd_ne e2, hid_ne e]
theorem take_norm {ds : List Dt} {i : Nat} {d : Dt} (h : ds[i]? = some d) : (ds.map norm).take (i + 1) = (ds.map norm).take i ++ [norm d] := by
  rw [List.take_add_one, List.getElem?_map, h]
  rfl
theorem mem_deep {d e : Dt} (h : e ∈ d.items) : deep e + 1 ≤ deep d := by
  have key : ∀ ds : List Dt, e ∈ ds → deep e ≤ deepAll ds := by
    intro ds
    induction ds with
    | nil => intro h; cases h
    | cons c ds ih =>
      intro h
      simp only [deepAll]
      rcases List.mem_cons.mp h with rfl | h
      · omega
      · have := ih h
        omega
  cases d with
  | lst ds => have := key ds h; simp only [deep]; omega
  | tup ds => have := key ds h; simp only [deep]; omega
  | _ => cases h
theorem mem_bulk {d e : Dt} (h : e ∈ d.items) : bulk e + 1 ≤ bulk d := by
  have key : ∀ ds : List Dt, e ∈ ds → bulk e + 1 ≤ bulkAll ds := by
    intro ds
    induction ds with
    | nil => intro h; cases h
    | cons c ds ih =>
      intro h
      simp only [bulkAll]
      rcases List.mem_cons.mp h with rfl | h
      · omega
      · have := ih h
        omega
  cases d with
  | lst ds => have := key ds h; simp only [bulk]; omega
  | tup ds => have := key ds h; simp only [bulk]; omega
  | _ => cases h
theorem len_bulk (d : Dt) : d.items.length ≤ bulk d := by
  have key : ∀ ds : List Dt, ds.length ≤ bulkAll ds := by
    intro ds
    induction ds with
    | nil => exact Nat.zero_le _
    | cons c ds ih => simp only [bulkAll, List.length_cons]; omega
  cases d with
  | lst ds => exact key ds
  | tup ds => exact key ds
  | _ => exact Nat.zero_le _
theorem fitsAll_mem : ∀ {ds : List Dt}, FitsAll ds → ∀ {e}, e ∈ ds → Fits e
  | [], _, e, h => by cases h
  | d :: ds, f, e, h => by
    unfold FitsAll at f
    rcases List.mem_cons.mp h with rfl | h
    · exact f.1
    · exact fitsAll_mem f.2 h
theorem mem_fits {d e : Dt} (f : Fits d) (h : e ∈ d.items) : Fits e := by
  cases d with
  | lst ds => unfold Fits at f; exact fitsAll_mem f h
  | tup ds => unfold Fits at f; exact fitsAll_mem f h
  | _ => cases h
theorem leaf_AtF {K : PySem.W.Frag} {H : Hp} {v : V} {d : Dt} (h : At K H v d) (f : Fits d) (hr : isRow d = false) : AtF H v (norm d) [] := by
  cases d with
  | lst ds => cases hr
  | tup ds => cases hr
  | non => unfold At at h; simp only [norm]; unfold AtF; exact ⟨h, rfl⟩
  | bl b => unfold At at h; simp only [norm]; unfold AtF; exact ⟨h, rfl⟩
  | int i => unfold At at h; simp only [norm]; unfold AtF; exact ⟨h, rfl⟩
  | str w => unfold At at h; simp only [norm]; unfold AtF; exact ⟨h.1, h.2, rfl⟩
  | dic => unfold Fits at f; exact f.elim
/-- a comprehension over a row, whatever its items come to; the row stands in G, which stays -/
theorem lc_rowP {K : PySem.W.Frag} {a : Addr} {xs : List V} {tt : TT} {te : TE} {vs : List Nat} {σ : L2.St} {G H : Hp} {Q : VK} {j k : Nat} (hv : σ[j]? = some (some (.ref a))) (hr : Row K G a xs) (hG : Same G H)
    (hw : ∀ x, wipe ((wipe σ vs).set k (some x)) vs = wipe σ vs) (ht : ∀ σ H (R : Bool → Hp → Prop), R true H → tt σ H R)
    (Pv : Addr → Nat → List V → Hp → Prop) (h0 : ∀ D, H D = none → Pv D 0 [] (upd H D (.lst []))) (hk : ∀ D i ys H', Pv D i ys H' → Same G H')
    (hs : ∀ D (i : Nat) (x : V) (ys : List V) (H' : Hp), H D = none → xs[i]? = some x → Pv D i ys H' → te ((wipe σ vs).set k (some x)) H' fun y H4 => ∃ acc, H4 D = some (.lst acc) ∧ acc.length < sizeLine ∧ ∃ ys, Pv D (i + 1) ys (upd H4 D (.lst (acc ++ [y]))))
    (hd : ∀ D ys H', H D = none → Pv D xs.length ys H' → Q (.ref D) H') : tLc (iSeq K (tVar j)) (gName k) tt te vs σ H Q := by
  have st : ∀ D i x H', H D = none → xs[i]? = some x → (∃ ys, Pv D i ys H') → gName k x (wipe σ vs) H' fun σ2 H2 => wipe σ2 vs = wipe σ vs ∧ tt σ2 H2 fun b H3 =>
      if b = true then te σ2 H3 fun y H4 => ∃ acc, H4 D = some (.lst acc) ∧ acc.length < sizeLine ∧ (∃ ys, Pv D (i + 1) ys (upd H4 D (.lst (acc ++ [y])))) else (∃ ys, Pv D (i + 1) ys H3) := by
    intro D i x H' nD hx ⟨ys, hP⟩
    refine ⟨hw x, ht _ _ _ ?_⟩
    rw [if_pos rfl]
    exact hs D i x ys H' nD hx hP
  rcases hr with hr | hr
  · exact .inl ⟨_, hv, a, rfl, ⟨_, hG.seq hr⟩, fun D nD => L2.lc_list (K := K) (a := a) (xs := xs) (fun i H' => ∃ ys, Pv D i ys H') ⟨[], h0 D nD⟩ (fun i H' _ ⟨ys, p⟩ => (hk D i ys H' p).seq hr) (fun i x H' hx p => st D i x H' nD hx p) (fun H' ⟨ys, p⟩ => hd D ys H' nD p)⟩
  · exact .inr ⟨_, hv, a, rfl, ⟨_, sameT hG hr⟩, fun D nD => L2.lc_tup (K := K) (a := a) (xs := xs) (fun i H' => ∃ ys, Pv D i ys H') ⟨[], h0 D nD⟩ (fun i H' _ ⟨ys, p⟩ => sameT (hk D i ys H' p) hr) (fun i x H' hx p => st D i x H' nD hx p) (fun H' ⟨ys, p⟩ => hd D ys H' nD p)⟩
/-- the same with any target -/
theorem lc_rowX {K : PySem.W.Frag} {a : Addr} {xs : List V} {tg : TG} {tt : TT} {te : TE} {vs : List Nat} {σ : L2.St} {G H : Hp} {Q : VK} {j : Nat} (hv : σ[j]? = some (some (.ref a))) (hr : Row K G a xs) (hG : Same G H)
    (Pv : Addr → Nat → Hp → Prop) (h0 : ∀ D, H D = none → Pv D 0 (upd H D (.lst []))) (hk : ∀ D i H', Pv D i H' → Same G H')
    (hs : ∀ D (i : Nat) (x : V) (H' : Hp), H D = none → xs[i]? = some x → Pv D i H' → tg x (wipe σ vs) H' fun σ2 H2 => wipe σ2 vs = wipe σ vs ∧ tt σ2 H2 fun b H3 =>
      if b = true then te σ2 H3 fun y H4 => ∃ acc, H4 D = some (.lst acc) ∧ acc.length < sizeLine ∧ Pv D (i + 1) (upd H4 D (.lst (acc ++ [y]))) else Pv D (i + 1) H3)
    (hd : ∀ D H', H D = none → Pv D xs.length H' → Q (.ref D) H') : tLc (iSeq K (tVar j)) tg tt te vs σ H Q := by
  rcases hr with hr | hr
  · exact .inl ⟨_, hv, a, rfl, ⟨_, hG.seq hr⟩, fun D nD => L2.lc_list (K := K) (a := a) (xs := xs) (fun i H' => Pv D i H') (h0 D nD) (fun i H' _ p => (hk D i H' p).seq hr) (fun i x H' hx p => hs D i x H' nD hx p) (fun H' p => hd D H' nD p)⟩
  · exact .inr ⟨_, hv, a, rfl, ⟨_, sameT hG hr⟩, fun D nD => L2.lc_tup (K := K) (a := a) (xs := xs) (fun i H' => Pv D i H') (h0 D nD) (fun i H' _ p => sameT (hk D i H' p) hr) (fun i x H' hx p => hs D i x H' nD hx p) (fun H' p => hd D H' nD p)⟩
theorem hid_none {p b : Addr} {H : Hp} (h : H b = none) : hid p H b = none := by
  by_cases e : b = p
  · exact if_pos e
  · rw [hid_ne e]
    exact h
theorem hid_hid {D : Addr} {H : Hp} {o : HO} : hid D (upd H D o) = hid D H := by
  funext b
  by_cases e : b = D
  · subst e
    show (if b = b then none else _) = (if b = b then none else _)
    rw [if_pos rfl, if_pos rfl]
  · rw [hid_ne e, hid_ne e, upd_ne e]
end BK

namespace BK
open PySem PySem.Spec PyProof.Rows L2
def topS (i : Nat) : Stmt := PySem.Challenge.pw_blindkeys_k02_letters_of_texts.main.body.getD i (.Pass ⟨0, 0, 0, 0⟩)
abbrev s_is_row : Stmt := topS 9
abbrev N_is_row : List Str := ["thing"]
theorem sc_is_row : FnScope N_is_row ["thing"] (defScope s_is_row) := ⟨rfl, rfl, rfl, by decide +kernel, rfl, by decide +kernel, by decide +kernel⟩
abbrev s_is_whole : Stmt := topS 10
abbrev N_is_whole : List Str := ["thing", "low"]
theorem sc_is_whole : FnScope N_is_whole ["thing", "low"] (defScope s_is_whole) := ⟨rfl, rfl, rfl, by decide +kernel, rfl, by decide +kernel, by decide +kernel⟩
abbrev s_is_within : Stmt := topS 11
abbrev N_is_within : List Str := ["thing", "low", "high"]
theorem sc_is_within : FnScope N_is_within ["thing", "low", "high"] (defScope s_is_within) := ⟨rfl, rfl, rfl, by decide +kernel, rfl, by decide +kernel, by decide +kernel⟩
abbrev s_is_plain : Stmt := topS 12
abbrev N_is_plain : List Str := ["thing"]
theorem sc_is_plain : FnScope N_is_plain ["thing"] (defScope s_is_plain) := ⟨rfl, rfl, rfl, by decide +kernel, rfl, by decide +kernel, by decide +kernel⟩
abbrev s_is_letter : Stmt := topS 13
abbrev N_is_letter : List Str := ["thing"]
theorem sc_is_letter : FnScope N_is_letter ["thing"] (defScope s_is_letter) := ⟨rfl, rfl, rfl, by decide +kernel, rfl, by decide +kernel, by decide +kernel⟩
abbrev s_is_clip : Stmt := topS 14
abbrev N_is_clip : List Str := ["thing"]
theorem sc_is_clip : FnScope N_is_clip ["thing"] (defScope s_is_clip) := ⟨rfl, rfl, rfl, by decide +kernel, rfl, by decide +kernel, by decide +kernel⟩
abbrev s_is_word : Stmt := topS 15
abbrev N_is_word : List Str := ["thing"]
theorem sc_is_word : FnScope N_is_word ["thing"] (defScope s_is_word) := ⟨rfl, rfl, rfl, by decide +kernel, rfl, by decide +kernel, by decide +kernel⟩
abbrev s_is_piece : Stmt := topS 20
abbrev N_is_piece : List Str := ["thing"]
theorem sc_is_piece : FnScope N_is_piece ["thing"] (defScope s_is_piece) := ⟨rfl, rfl, rfl, by decide +kernel, rfl, by decide +kernel, by decide +kernel⟩
abbrev s_is_text : Stmt := topS 21
abbrev N_is_text : List Str := ["thing", "many", "piece"]
theorem sc_is_text : FnScope N_is_text ["thing"] (defScope s_is_text) := ⟨rfl, rfl, rfl, by decide +kernel, rfl, by decide +kernel, by decide +kernel⟩
abbrev s_check_text : Stmt := topS 22
abbrev N_check_text : List Str := ["thing"]
theorem sc_check_text : FnScope N_check_text ["thing"] (defScope s_check_text) := ⟨rfl, rfl, rfl, by decide +kernel, rfl, by decide +kernel, by decide +kernel⟩
abbrev s_check_letter : Stmt := topS 23
abbrev N_check_letter : List Str := ["thing"]
theorem sc_check_letter : FnScope N_check_letter ["thing"] (defScope s_check_letter) := ⟨rfl, rfl, rfl, by decide +kernel, rfl, by decide +kernel, by decide +kernel⟩
abbrev s_spans_of : Stmt := topS 24
abbrev N_spans_of : List Str := ["text", "spans", "start", "word", "times", "stop"]
theorem sc_spans_of : FnScope N_spans_of ["text"] (defScope s_spans_of) := ⟨rfl, rfl, rfl, by decide +kernel, rfl, by decide +kernel, by decide +kernel⟩
abbrev s_end_of : Stmt := topS 25
abbrev N_end_of : List Str := ["spans"]
theorem sc_end_of : FnScope N_end_of ["spans"] (defScope s_end_of) := ⟨rfl, rfl, rfl, by decide +kernel, rfl, by decide +kernel, by decide +kernel⟩
abbrev s_stretch : Stmt := topS 26
abbrev N_stretch : List Str := ["word", "at", "many", "first", "enough"]
theorem sc_stretch : FnScope N_stretch ["word", "at", "many"] (defScope s_stretch) := ⟨rfl, rfl, rfl, by decide +kernel, rfl, by decide +kernel, by decide +kernel⟩
abbrev s_look : Stmt := topS 27
abbrev N_look : List Str := ["spans", "place", "many", "seen", "start", "stop", "word", "low", "high"]
theorem sc_look : FnScope N_look ["spans", "place", "many"] (defScope s_look) := ⟨rfl, rfl, rfl, by decide +kernel, rfl, by decide +kernel, by decide +kernel⟩
abbrev s_among : Stmt := topS 28
abbrev N_among : List Str := ["word", "sign", "many", "words", "rest"]
theorem sc_among : FnScope N_among ["word", "sign", "many"] (defScope s_among) := ⟨rfl, rfl, rfl, by decide +kernel, rfl, by decide +kernel, by decide +kernel⟩
abbrev s_nth_again : Stmt := topS 29
abbrev N_nth_again : List Str := ["word", "sign", "number", "places", "words", "rest", "at"]
theorem sc_nth_again : FnScope N_nth_again ["word", "sign", "number"] (defScope s_nth_again) := ⟨rfl, rfl, rfl, by decide +kernel, rfl, by decide +kernel, by decide +kernel⟩
abbrev s_letter : Stmt := topS 30
abbrev N_letter : List Str := ["text", "place", "spans"]
theorem sc_letter : FnScope N_letter ["text", "place"] (defScope s_letter) := ⟨rfl, rfl, rfl, by decide +kernel, rfl, by decide +kernel, by decide +kernel⟩
abbrev s_looks : Stmt := topS 31
abbrev N_looks : List Str := ["text", "place", "many", "spans"]
theorem sc_looks : FnScope N_looks ["text", "place", "many"] (defScope s_looks) := ⟨rfl, rfl, rfl, by decide +kernel, rfl, by decide +kernel, by decide +kernel⟩
abbrev s_count : Stmt := topS 32
abbrev N_count : List Str := ["text", "sign", "many", "spans", "told", "start", "stop", "word"]
theorem sc_count : FnScope N_count ["text", "sign", "many"] (defScope s_count) := ⟨rfl, rfl, rfl, by decide +kernel, rfl, by decide +kernel, by decide +kernel⟩
abbrev s_nth : Stmt := topS 33
abbrev N_nth : List Str := ["text", "sign", "number", "passed", "start", "stop", "word", "here"]
theorem sc_nth : FnScope N_nth ["text", "sign", "number"] (defScope s_nth) := ⟨rfl, rfl, rfl, by decide +kernel, rfl, by decide +kernel, by decide +kernel⟩
abbrev s__law_spring : Stmt := topS 35
abbrev N__law_spring : List Str := ["script", "figures", "stir", "cell"]
theorem sc__law_spring : FnScope N__law_spring ["script"] (defScope s__law_spring) := ⟨rfl, rfl, rfl, by decide +kernel, rfl, by decide +kernel, by decide +kernel⟩
abbrev s__law_draw : Stmt := topS 36
abbrev N__law_draw : List Str := ["spring", "many", "found", "stir"]
theorem sc__law_draw : FnScope N__law_draw ["spring", "many"] (defScope s__law_draw) := ⟨rfl, rfl, rfl, by decide +kernel, rfl, by decide +kernel, by decide +kernel⟩
abbrev s__law_same : Stmt := topS 37
abbrev N__law_same : List Str := ["found", "due", "k"]
theorem sc__law_same : FnScope N__law_same ["found", "due"] (defScope s__law_same) := ⟨rfl, rfl, rfl, by decide +kernel, rfl, by decide +kernel, by decide +kernel⟩
abbrev s__law_lists : Stmt := topS 38
abbrev N__law_lists : List Str := ["thing", "inner"]
theorem sc__law_lists : FnScope N__law_lists ["thing"] (defScope s__law_lists) := ⟨rfl, rfl, rfl, by decide +kernel, rfl, by decide +kernel, by decide +kernel⟩
abbrev s__law_handed : Stmt := topS 39
abbrev N__law_handed : List Str := ["spring", "thing", "kind", "one"]
theorem sc__law_handed : FnScope N__law_handed ["spring", "thing"] (defScope s__law_handed) := ⟨rfl, rfl, rfl, by decide +kernel, rfl, by decide +kernel, by decide +kernel⟩
abbrev s__law_word : Stmt := topS 40
abbrev N__law_word : List Str := ["spring", "most", "kinds", "k"]
theorem sc__law_word : FnScope N__law_word ["spring", "most"] (defScope s__law_word) := ⟨rfl, rfl, rfl, by decide +kernel, rfl, by decide +kernel, by decide +kernel⟩
abbrev s__law_text : Stmt := topS 41
abbrev N__law_text : List Str := ["spring", "most", "wide", "times", "found", "k"]
theorem sc__law_text : FnScope N__law_text ["spring", "most", "wide", "times"] (defScope s__law_text) := ⟨rfl, rfl, rfl, by decide +kernel, rfl, by decide +kernel, by decide +kernel⟩
abbrev s__law_laid : Stmt := topS 42
abbrev N__law_laid : List Str := ["text", "word", "times"]
theorem sc__law_laid : FnScope N__law_laid ["text"] (defScope s__law_laid) := ⟨rfl, rfl, rfl, by decide +kernel, rfl, by decide +kernel, by decide +kernel⟩
abbrev s__law_right : Stmt := topS 43
abbrev N__law_right : List Str := ["spring", "text", "handed", "laid", "size", "stays", "place", "again", "many", "sign", "first", "spots", "number", "at"]
theorem sc__law_right : FnScope N__law_right ["spring", "text", "handed"] (defScope s__law_right) := ⟨rfl, rfl, rfl, by decide +kernel, rfl, by decide +kernel, by decide +kernel⟩
abbrev s_law : Stmt := topS 44
abbrev N_law : List Str := ["script", "spring", "turn", "text", "held", "again", "word", "times"]
theorem sc_law : FnScope N_law ["script"] (defScope s_law) := ⟨rfl, rfl, rfl, by decide +kernel, rfl, by decide +kernel, by decide +kernel⟩
structure FnT (K : PySem.W.Frag) (mg : Str → Option Value) (x : Str) (st : Stmt) (ps : List Str) : Type where
  f : Addr
  fd : FuncData
  F : Fun K x x st f fd
  g : mg x = some (.ref f)
  b : Binds K fd ps []
structure Txt (K : PySem.W.Frag) (mg : Str → Option Value) : Type where
  f_is_row : FnT K mg "is_row" s_is_row ["thing"]
  f_is_whole : FnT K mg "is_whole" s_is_whole ["thing", "low"]
  f_is_within : FnT K mg "is_within" s_is_within ["thing", "low", "high"]
  f_is_plain : FnT K mg "is_plain" s_is_plain ["thing"]
  f_is_letter : FnT K mg "is_letter" s_is_letter ["thing"]
  f_is_clip : FnT K mg "is_clip" s_is_clip ["thing"]
  f_is_word : FnT K mg "is_word" s_is_word ["thing"]
  f_is_piece : FnT K mg "is_piece" s_is_piece ["thing"]
  f_is_text : FnT K mg "is_text" s_is_text ["thing"]
  f_check_text : FnT K mg "check_text" s_check_text ["thing"]
  f_check_letter : FnT K mg "check_letter" s_check_letter ["thing"]
  f_spans_of : FnT K mg "spans_of" s_spans_of ["text"]
  f_end_of : FnT K mg "end_of" s_end_of ["spans"]
  f_stretch : FnT K mg "stretch" s_stretch ["word", "at", "many"]
  f_look : FnT K mg "look" s_look ["spans", "place", "many"]
  f_among : FnT K mg "among" s_among ["word", "sign", "many"]
  f_nth_again : FnT K mg "nth_again" s_nth_again ["word", "sign", "number"]
  f_letter : FnT K mg "letter" s_letter ["text", "place"]
  f_looks : FnT K mg "looks" s_looks ["text", "place", "many"]
  f_count : FnT K mg "count" s_count ["text", "sign", "many"]
  f_nth : FnT K mg "nth" s_nth ["text", "sign", "number"]
  f__law_spring : FnT K mg "_law_spring" s__law_spring ["script"]
  f__law_draw : FnT K mg "_law_draw" s__law_draw ["spring", "many"]
  f__law_same : FnT K mg "_law_same" s__law_same ["found", "due"]
  f__law_lists : FnT K mg "_law_lists" s__law_lists ["thing"]
  f__law_handed : FnT K mg "_law_handed" s__law_handed ["spring", "thing"]
  f__law_word : FnT K mg "_law_word" s__law_word ["spring", "most"]
  f__law_text : FnT K mg "_law_text" s__law_text ["spring", "most", "wide", "times"]
  f__law_laid : FnT K mg "_law_laid" s__law_laid ["text"]
  f__law_right : FnT K mg "_law_right" s__law_right ["spring", "text", "handed"]
  f_law : FnT K mg "law" s_law ["script"]
  b_abs : mg "abs" = none
  b_all : mg "all" = none
  b_bool : mg "bool" = none
  b_divmod : mg "divmod" = none
  b_int : mg "int" = none
  b_isinstance : mg "isinstance" = none
  b_len : mg "len" = none
  b_list : mg "list" = none
  b_max : mg "max" = none
  b_min : mg "min" = none
  b_range : mg "range" = none
  b_repr : mg "repr" = none
  b_str : mg "str" = none
  b_tuple : mg "tuple" = none
  b_type : mg "type" = none
  c_ALPHABET : ∃ t, mg "ALPHABET" = some (.str "abcdefghijklmnopqrstuvwxyz" t)
  c_LONGEST_LOOK : ∃ t, mg "LONGEST_LOOK" = some (.int 2000 t)
  c_LONGEST_WORD : ∃ t, mg "LONGEST_WORD" = some (.int 60 t)
  c_MOST_LETTERS : ∃ t, mg "MOST_LETTERS" = some (.int 1000000000000000000000000000000 t)
  c_MOST_PIECES : ∃ t, mg "MOST_PIECES" = some (.int 40 t)
theorem pe_c_ALPHABET {X : Cx} {pos : Pos} (T : Txt X.K X.mg) (hg : Gl X "ALPHABET" := by rfl) : PE X (.Name "ALPHABET" pos) (tC (.str "abcdefghijklmnopqrstuvwxyz")) := by
  obtain ⟨t, e⟩ := T.c_ALPHABET
  exact pe_glob hg e ⟨_, rfl⟩
theorem pe_c_LONGEST_LOOK {X : Cx} {pos : Pos} (T : Txt X.K X.mg) (hg : Gl X "LONGEST_LOOK" := by rfl) : PE X (.Name "LONGEST_LOOK" pos) (tC (.int 2000)) := by
  obtain ⟨t, e⟩ := T.c_LONGEST_LOOK
  exact pe_glob hg e ⟨_, rfl⟩
theorem pe_c_LONGEST_WORD {X : Cx} {pos : Pos} (T : Txt X.K X.mg) (hg : Gl X "LONGEST_WORD" := by rfl) : PE X (.Name "LONGEST_WORD" pos) (tC (.int 60)) := by
  obtain ⟨t, e⟩ := T.c_LONGEST_WORD
  exact pe_glob hg e ⟨_, rfl⟩
theorem pe_c_MOST_LETTERS {X : Cx} {pos : Pos} (T : Txt X.K X.mg) (hg : Gl X "MOST_LETTERS" := by rfl) : PE X (.Name "MOST_LETTERS" pos) (tC (.int 1000000000000000000000000000000)) := by
  obtain ⟨t, e⟩ := T.c_MOST_LETTERS
  exact pe_glob hg e ⟨_, rfl⟩
theorem pe_c_MOST_PIECES {X : Cx} {pos : Pos} (T : Txt X.K X.mg) (hg : Gl X "MOST_PIECES" := by rfl) : PE X (.Name "MOST_PIECES" pos) (tC (.int 40)) := by
  obtain ⟨t, e⟩ := T.c_MOST_PIECES
  exact pe_glob hg e ⟨_, rfl⟩
local macro_rules | `(tactic| walk_at "rd") => `(tactic| try dsimp only [tSeq, tNext, tRet, tRetN, tDrop, tIfS, tAsg, tPar, tAug, tVar, tC, tOp, tUn, tCB, tCons, tNil, tTup, tLst, tCall, tTest, tB, tNot, tAnd, tOr, tAndV, tOrV, tNotV, tIf, tIsN, tNotN, tSl, tPart, tNoPart, tM1, tM0, tBM, tBM0, tChain, gName, gTup, gUnl, gCons, gNil, List.nil_append, List.append_nil, List.cons_append])
section
variable {P : Program} {w : World} {K : PySem.W.Frag} {mg : Str → Option Value} {base : Heap}
/-! ## kinds -/
def spIsRow (K : PySem.W.Frag) : Sp := fun vs H Q _ => ∃ v d, vs = [v] ∧ At K H v d ∧ ∀ H', Same H H' → Q (.bl (isRow d)) H'
theorem ok_is_row (T : Txt K mg) : FnOk P w K mg base CX0 1 T.f_is_row.f T.f_is_row.fd ["thing"] (spIsRow K) := by
  refine T.f_is_row.F.ok sc_is_row (fun vs H Q E h => ?_) (fun cdv A outer s H vs Q E hr h => ?_)
  · obtain ⟨v, d, rfl, _⟩ := h
    rfl
  obtain ⟨v, d, rfl, hv, q⟩ := h
  refine ⟨_, (pss_one (ps_ret (pe_cmpR op_in_ty (pe_callTy call_type1 (by rfl) T.b_type (by decide +kernel) (pa_cons (pv 0) pa_nil)) (pe_tup (pa_cons (pe_bltn (v := .ty "list") (by rfl) T.b_list (by decide +kernel) rfl) (pa_cons (pe_bltn (v := .ty "tuple") (by rfl) T.b_tuple (by decide +kernel) rfl) pa_nil))) (by rfl)))), ?_⟩
  walk_at "rd"
  refine ⟨v, rfl, v, d.ty, rfl, hv.ty, (by show 2 ≤ sizeLine; decide), fun p hp => ?_⟩
  refine ⟨d.ty, p, ["list", "tuple"], rfl, rfl, SqT.of upd_same, ty_known d, by decide, ?_⟩
  have e : decide (d.ty ∈ ["list", "tuple"]) = isRow d := by cases d <;> simp [Dt.ty, isRow]
  rw [e]
  exact q _ (same_upd hp)

def spIsWhole (K : PySem.W.Frag) : Sp := fun vs H Q _ => ∃ v d lo, vs = [v, .int lo] ∧ At K H v d ∧ Q (.bl (isWhole d lo)) H
theorem ok_is_whole (T : Txt K mg) : FnOk P w K mg base CX0 1 T.f_is_whole.f T.f_is_whole.fd ["thing", "low"] (spIsWhole K) := by
  refine T.f_is_whole.F.ok sc_is_whole (fun vs H Q E h => ?_) (fun cdv A outer s H vs Q E hr h => ?_)
  · obtain ⟨v, d, lo, rfl, _⟩ := h
    rfl
  obtain ⟨v, d, lo, rfl, hv, q⟩ := h
  refine ⟨_, (pss_one (ps_ret (pe_and (pe_cmpR op_isTyB (pe_callTy call_type1 (by rfl) T.b_type (by decide +kernel) (pa_cons (pv 0) pa_nil)) (pe_bltn (v := .ty "int") (by rfl) T.b_int (by decide +kernel) rfl) (nomark _)) (pe_one (pe_cmpR op_ge (pv 0) (pv 1) (nomark _)))))), ?_⟩
  walk_at "rd"
  refine ⟨v, rfl, v, d.ty, rfl, hv.ty, d.ty, "int", rfl, rfl, _, rfl, ite2 (fun e => ?_) (fun e => ?_)⟩
  · have e2 := of_decide_eq_true e
    cases d with
    | int i =>
      unfold At at hv
      subst hv
      exact ⟨_, rfl, _, rfl, i, lo, rfl, rfl, q⟩
    | _ => exact absurd e2 (by simp [Dt.ty])
  · have e2 : isWhole d lo = false := by
      cases d with
      | int i => exact absurd (decide_eq_true rfl) e
      | _ => rfl
    rw [e2] at q
    exact q

def spIsPlain (K : PySem.W.Frag) : Sp := fun vs H Q _ => ∃ v d, vs = [v] ∧ At K H v d ∧ Q (.bl (isPlain d)) H
theorem ok_is_plain (T : Txt K mg) : FnOk P w K mg base CX0 1 T.f_is_plain.f T.f_is_plain.fd ["thing"] (spIsPlain K) := by
  refine T.f_is_plain.F.ok sc_is_plain (fun vs H Q E h => ?_) (fun cdv A outer s H vs Q E hr h => ?_)
  · obtain ⟨v, d, rfl, _⟩ := h
    rfl
  obtain ⟨v, d, rfl, hv, q⟩ := h
  refine ⟨_, (pss_one (ps_ret (pe_and (pe_cmpR op_isTyB (pe_callTy call_type1 (by rfl) T.b_type (by decide +kernel) (pa_cons (pv 0) pa_nil)) (pe_bltn (v := .ty "str") (by rfl) T.b_str (by decide +kernel) rfl) (nomark _)) (pe_one (pe_cmpR op_eq (pe_m1 PySem.F.slot_str_strip PySem.F.type_str_strip mt_stripChars (pv 0) (pe_c_ALPHABET T)) pe_str (nomark _)))))), ?_⟩
  walk_at "rd"
  refine ⟨v, rfl, v, d.ty, rfl, hv.ty, d.ty, "str", rfl, rfl, _, rfl, ite2 (fun e => ?_) (fun e => ?_)⟩
  · have e2 := of_decide_eq_true e
    cases d with
    | str x =>
      unfold At at hv
      obtain ⟨rfl, hl⟩ := hv
      refine ⟨_, rfl, ⟨_, rfl⟩, _, _, rfl, rfl, (by rw [tx_len]; exact Nat.le_trans hl (by decide)), rfl, ?_⟩
      have e3 : decide (V.str (Txt.stripChars (tx x) ("abcdefghijklmnopqrstuvwxyz" : Str)) = V.str ("" : Str)) = isPlain (.str x) := by
        rw [← tx_alpha, ← tx_nil, Bool.eq_iff_iff, decide_eq_true_iff]
        have := strip_iff x alpha
        constructor
        · intro h
          exact this.mp (V.str.inj h)
        · intro h
          exact congrArg V.str (this.mpr h)
      rw [e3]
      exact q
    | _ => exact absurd e2 (by simp [Dt.ty])
  · have e2 : isPlain d = false := by
      cases d with
      | str i => exact absurd (decide_eq_true rfl) e
      | _ => rfl
    rw [e2] at q
    exact q

def spIsWithin (K : PySem.W.Frag) : Sp := fun vs H Q _ => ∃ v d lo hi, vs = [v, .int lo, .int hi] ∧ At K H v d ∧ Q (.bl (isWithin d lo hi)) H
theorem ok_is_within (T : Txt K mg) : FnOk P w K mg base CX0 2 T.f_is_within.f T.f_is_within.fd ["thing", "low", "high"] (spIsWithin K) := by
  refine T.f_is_within.F.ok sc_is_within (fun vs H Q E h => ?_) (fun cdv A outer s H vs Q E hr h => ?_)
  · obtain ⟨v, d, lo, hi, rfl, _⟩ := h
    rfl
  obtain ⟨v, d, lo, hi, rfl, hv, q⟩ := h
  refine ⟨_, (pss_one (ps_ret (pe_and (pe_call (ok_is_whole T) (hr.mono (by decide)) (by rfl) T.f_is_whole.g T.f_is_whole.F.kp T.f_is_whole.b .nil pass0 (pa_cons (pv 0) (pa_cons (pv 1) pa_nil))) (pe_one (pe_cmpR op_le (pv 0) (pv 2) (nomark _)))))), ?_⟩
  walk_at "rd"
  refine ⟨v, rfl, .int lo, rfl, v, d, lo, rfl, hv, _, rfl, ite2 (fun e => ?_) (fun e => ?_)⟩
  · cases d with
    | int i =>
      unfold At at hv
      subst hv
      rw [show isWithin (.int i) lo hi = (isWhole (.int i) lo && decide (i ≤ hi)) from rfl, e, Bool.true_and] at q
      exact ⟨_, rfl, _, rfl, i, hi, rfl, rfl, q⟩
    | _ => exact absurd e (by simp [isWhole])
  · have e2 : isWithin d lo hi = false := by
      cases d with
      | int i =>
        rw [show isWithin (.int i) lo hi = (isWhole (.int i) lo && decide (i ≤ hi)) from rfl, Bool.eq_false_iff.mpr e, Bool.false_and]
      | _ => rfl
    rw [e2] at q
    exact q

def spStr (f : Dt → Bool) (K : PySem.W.Frag) : Sp := fun vs H Q _ => ∃ v d, vs = [v] ∧ At K H v d ∧ Q (.bl (f d)) H
theorem plain_str {d : Dt} (h : isPlain d = true) : ∃ x, d = .str x ∧ x.all (alpha.contains ·) = true := by
  cases d with
  | str x => exact ⟨x, rfl, h⟩
  | _ => cases h
theorem ok_is_letter (T : Txt K mg) : FnOk P w K mg base CX0 2 T.f_is_letter.f T.f_is_letter.fd ["thing"] (spStr isLetter K) := by
  refine T.f_is_letter.F.ok sc_is_letter (fun vs H Q E h => ?_) (fun cdv A outer s H vs Q E hr h => ?_)
  · obtain ⟨v, d, rfl, _⟩ := h
    rfl
  obtain ⟨v, d, rfl, hv, q⟩ := h
  refine ⟨_, (pss_one (ps_ret (pe_and (pe_call (ok_is_plain T) (hr.mono (by decide)) (by rfl) T.f_is_plain.g T.f_is_plain.F.kp T.f_is_plain.b .nil pass0 (pa_cons (pv 0) pa_nil)) (pe_one (pe_cmpR op_eq (pe_callB (call_lenK K) (by rfl) T.b_len (by decide +kernel) (pa_cons (pv 0) pa_nil)) pe_int (nomark _)))))), ?_⟩
  walk_at "rd"
  refine ⟨v, rfl, v, d, rfl, hv, _, rfl, ite2 (fun e => ?_) (fun e => ?_)⟩
  · obtain ⟨x, rfl, hx⟩ := plain_str e
    unfold At at hv
    obtain ⟨rfl, hl⟩ := hv
    refine ⟨_, rfl, len_tx hl ⟨rfl, ?_⟩⟩
    have e3 : decide (V.int (x.length : Int) = V.int 1) = isLetter (.str x) := by
      rw [show isLetter (.str x) = (isPlain (.str x) && decide (x.length = 1)) from rfl, e, Bool.true_and, Bool.eq_iff_iff, decide_eq_true_iff, decide_eq_true_iff]
      exact ⟨fun h => by have := V.int.inj h; omega, fun h => by rw [h]; rfl⟩
    rw [e3]
    exact q
  · have e2 : isLetter d = false := by
      cases d with
      | str x =>
        rw [show isLetter (.str x) = (isPlain (.str x) && decide (x.length = 1)) from rfl, Bool.eq_false_iff.mpr e, Bool.false_and]
      | _ => rfl
    rw [e2] at q
    exact q
theorem ok_is_clip (T : Txt K mg) : FnOk P w K mg base CX0 2 T.f_is_clip.f T.f_is_clip.fd ["thing"] (spStr isClip K) := by
  refine T.f_is_clip.F.ok sc_is_clip (fun vs H Q E h => ?_) (fun cdv A outer s H vs Q E hr h => ?_)
  · obtain ⟨v, d, rfl, _⟩ := h
    rfl
  obtain ⟨v, d, rfl, hv, q⟩ := h
  refine ⟨_, (pss_one (ps_ret (pe_and (pe_call (ok_is_plain T) (hr.mono (by decide)) (by rfl) T.f_is_plain.g T.f_is_plain.F.kp T.f_is_plain.b .nil pass0 (pa_cons (pv 0) pa_nil)) (pe_one (pe_cmpR op_le (pe_callB (call_lenK K) (by rfl) T.b_len (by decide +kernel) (pa_cons (pv 0) pa_nil)) (pe_c_LONGEST_WORD T) (nomark _)))))), ?_⟩
  walk_at "rd"
  refine ⟨v, rfl, v, d, rfl, hv, _, rfl, ite2 (fun e => ?_) (fun e => ?_)⟩
  · obtain ⟨x, rfl, hx⟩ := plain_str e
    unfold At at hv
    obtain ⟨rfl, hl⟩ := hv
    refine ⟨_, rfl, len_tx hl ⟨_, _, rfl, rfl, ?_⟩⟩
    have e3 : decide ((x.length : Int) ≤ 60) = isClip (.str x) := by
      rw [show isClip (.str x) = (isPlain (.str x) && decide (x.length ≤ 60)) from rfl, e, Bool.true_and, Bool.eq_iff_iff, decide_eq_true_iff, decide_eq_true_iff]
      omega
    rw [← e3] at q
    exact q
  · have e2 : isClip d = false := by
      cases d with
      | str x =>
        rw [show isClip (.str x) = (isPlain (.str x) && decide (x.length ≤ 60)) from rfl, Bool.eq_false_iff.mpr e, Bool.false_and]
      | _ => rfl
    rw [e2] at q
    exact q
theorem ok_is_word (T : Txt K mg) : FnOk P w K mg base CX0 3 T.f_is_word.f T.f_is_word.fd ["thing"] (spStr isWord K) := by
  refine T.f_is_word.F.ok sc_is_word (fun vs H Q E h => ?_) (fun cdv A outer s H vs Q E hr h => ?_)
  · obtain ⟨v, d, rfl, _⟩ := h
    rfl
  obtain ⟨v, d, rfl, hv, q⟩ := h
  refine ⟨_, (pss_one (ps_ret (pe_and (pe_call (ok_is_clip T) (hr.mono (by decide)) (by rfl) T.f_is_clip.g T.f_is_clip.F.kp T.f_is_clip.b .nil pass0 (pa_cons (pv 0) pa_nil)) (pe_one (pe_cmpR op_ne (pv 0) pe_str (nomark _)))))), ?_⟩
  walk_at "rd"
  refine ⟨v, rfl, v, d, rfl, hv, _, rfl, ite2 (fun e => ?_) (fun e => ?_)⟩
  · cases d with
    | str x =>
      unfold At at hv
      obtain ⟨rfl, hl⟩ := hv
      refine ⟨_, rfl, rfl, ?_⟩
      have e3 : (!decide (V.str (tx x) = V.str ("" : Str))) = isWord (.str x) := by
        rw [show isWord (.str x) = (isClip (.str x) && decide (x ≠ [])) from rfl, e, Bool.true_and, ← tx_nil, Bool.eq_iff_iff, Bool.not_eq_true', decide_eq_false_iff_not, decide_eq_true_iff, tx_eq]
      rw [e3]
      exact q
    | _ => cases e
  · have e2 : isWord d = false := by
      cases d with
      | str x =>
        rw [show isWord (.str x) = (isClip (.str x) && decide (x ≠ [])) from rfl, Bool.eq_false_iff.mpr e, Bool.false_and]
      | _ => rfl
    rw [e2] at q
    exact q

/-! ## pieces -/
def spIsPiece (f : Dt → Bool) (K : PySem.W.Frag) : Sp := fun vs H Q _ => ∃ v d, vs = [v] ∧ At K H v d ∧ ∀ H', Same H H' → Q (.bl (f d)) H'
theorem ok_is_piece (T : Txt K mg) : FnOk P w K mg base CX0 4 T.f_is_piece.f T.f_is_piece.fd ["thing"] (spIsPiece isPiece K) := by
  refine T.f_is_piece.F.ok sc_is_piece (fun vs H Q E h => ?_) (fun cdv A outer s H vs Q E hr h => ?_)
  · obtain ⟨v, d, rfl, _⟩ := h
    rfl
  obtain ⟨v, d, rfl, hv, q⟩ := h
  refine ⟨_, (pss_one (ps_ret (pe_and (pe_call (ok_is_row T) (hr.mono (by decide)) (by rfl) T.f_is_row.g T.f_is_row.F.kp T.f_is_row.b .nil pass0 (pa_cons (pv 0) pa_nil)) (pe_and (pe_cmpR op_eq (pe_callB (call_lenK K) (by rfl) T.b_len (by decide +kernel) (pa_cons (pv 0) pa_nil)) pe_int (nomark _)) (pe_and (pe_call (ok_is_word T) (hr.mono (by decide)) (by rfl) T.f_is_word.g T.f_is_word.F.kp T.f_is_word.b .nil pass0 (pa_cons (pe_ix ix_seq (pv 0) pe_int (fun _ _ => rfl)) pa_nil)) (pe_one (pe_call (ok_is_whole T) (hr.mono (by decide)) (by rfl) T.f_is_whole.g T.f_is_whole.F.kp T.f_is_whole.b .nil pass0 (pa_cons (pe_ix ix_seq (pv 0) pe_int (fun _ _ => rfl)) (pa_cons pe_int pa_nil))))))))), ?_⟩
  walk_at "rd"
  refine ⟨v, rfl, v, d, rfl, hv, fun H1 s1 => ⟨_, rfl, ite2 (fun e => ?_) (fun e => ?_)⟩⟩
  · obtain ⟨a, xs, rfl, hrow, hit⟩ := at_row hv e
    refine ⟨_, rfl, len_row (hrow.same s1) ⟨rfl, _, rfl, ite2 (fun e2 => ?_) (fun e2 => ?_)⟩⟩
    · have h2 : xs.length = 2 := by have := V.int.inj (of_decide_eq_true e2); omega
      obtain ⟨x0, x1, rfl⟩ : ∃ x0 x1, xs = [x0, x1] := by
        match xs, h2 with
        | [x0, x1], _ => exact ⟨x0, x1, rfl⟩
      obtain ⟨d0, g0, a0⟩ := hit.at (i := 0) rfl
      obtain ⟨d1, g1, a1⟩ := hit.at (i := 1) rfl
      have hd : d.items = [d0, d1] := by
        have hl : d.items.length = 2 := by rw [← hit.len]; rfl
        match hm : d.items, hl with
        | [y0, y1], _ =>
          rw [hm] at g0 g1
          cases g0
          cases g1
          rfl
      refine ⟨_, rfl, ix_row (hrow.same s1) (atI_nat (j := 0) rfl) ⟨x0, d0, rfl, At.same s1 _ _ a0, _, rfl, ite2 (fun e3 => ?_) (fun e3 => ?_)⟩⟩
      · refine ⟨_, rfl, ix_row (hrow.same s1) (atI_nat (j := 1) rfl) ⟨x1, d1, 1, rfl, At.same s1 _ _ a1, ?_⟩⟩
        have e4 : isPiece d = isWhole d1 1 := by
          unfold isPiece
          rw [hd, e, Bool.true_and]
          show (isWord d0 && isWhole d1 1) = _
          rw [e3, Bool.true_and]
        rw [e4] at q
        exact q _ s1
      · have e4 : isPiece d = false := by
          unfold isPiece
          rw [hd, e, Bool.true_and]
          show (isWord d0 && isWhole d1 1) = _
          rw [Bool.eq_false_iff.mpr e3, Bool.false_and]
        rw [e4] at q
        exact q _ s1
    · have e4 : isPiece d = false := by
        unfold isPiece
        rw [e, Bool.true_and]
        split
        · rename_i y0 y1 hy
          exfalso
          refine e2 (decide_eq_true ?_)
          rw [hit.len, hy]
          rfl
        · rfl
      rw [e4] at q
      exact q _ s1
  · have e2 : isPiece d = false := by
      unfold isPiece
      rw [Bool.eq_false_iff.mpr e, Bool.false_and]
    rw [e2] at q
    exact q _ s1

theorem ok_is_text (T : Txt K mg) : FnOk P w K mg base CX0 5 T.f_is_text.f T.f_is_text.fd ["thing"] (spIsPiece isText K) := by
  refine T.f_is_text.F.ok sc_is_text (fun vs H Q E h => ?_) (fun cdv A outer s H vs Q E hr h => ?_)
  · obtain ⟨v, d, rfl, _⟩ := h
    rfl
  obtain ⟨v, d, rfl, hv, q⟩ := h
  refine ⟨_, (pss_cons (ps_if (PW.pt (pw_or (pt_not (pt_val (pe_call (ok_is_row T) (hr.mono (by decide)) (by rfl) T.f_is_row.g T.f_is_row.F.kp T.f_is_row.b .nil pass0 (pa_cons (pv 0) pa_nil)))) (pw_or1 (pt_cmpR op_gt (pe_callB (call_lenK K) (by rfl) T.b_len (by decide +kernel) (pa_cons (pv 0) pa_nil)) (pe_c_MOST_PIECES T) (nomark _))))) (pss_one (ps_ret pe_bl)) pss_nil)
      (pss_cons (ps_set (i := 1) sc_is_text.nd rfl (.inl rfl) pe_int)
      (pss_cons (ps_for PassesOwn.never rfl (pi_seq (pv 0)) (pg_name (i := 2) sc_is_text.nd rfl (.inl rfl))
        (pss_cons (ps_if (pt_not (pt_val (pe_call (ok_is_piece T) (hr.mono (by decide)) (by rfl) T.f_is_piece.g T.f_is_piece.F.kp T.f_is_piece.b .nil pass0 (pa_cons (pv 2) pa_nil)))) (pss_one (ps_ret pe_bl)) pss_nil)
      (pss_one (ps_aug (i := 1) sc_is_text.nd rfl (.inl rfl) (pe_op op_mul (pe_callB (call_lenK K) (by rfl) T.b_len (by decide +kernel) (pa_cons (pe_ix ix_seq (pv 2) pe_int (fun _ _ => rfl)) pa_nil)) (pe_ix ix_seq (pv 2) pe_int (fun _ _ => rfl))) ip_add))))
      (pss_one (ps_ret (pe_cmpR op_le (pv 1) (pe_c_MOST_LETTERS T) (nomark _))))))), ?_⟩
  walk_at "rd"
  refine ⟨v, rfl, v, d, rfl, hv, fun H1 s1 => ⟨_, rfl, ?_⟩⟩
  cases hrw : isRow d with
  | false =>
    refine iteT (iteT ?_)
    have e4 : isText d = false := by unfold isText; rw [hrw]; rfl
    rw [e4] at q
    exact q _ s1
  | true =>
    obtain ⟨a, xs, rfl, hrow, hit⟩ := at_row hv hrw
    refine iteF ⟨_, rfl, len_row (hrow.same s1) ⟨_, _, rfl, rfl, _, rfl, ite2 (fun e2 => ?_) (fun e2 => ?_)⟩⟩
    · have e4 : isText d = false := by
        unfold isText
        have := of_decide_eq_true e2
        rw [hit.len] at this
        rw [decide_eq_false (show ¬ d.items.length ≤ 40 by omega), Bool.and_false]
        rfl
      rw [e4] at q
      exact q _ s1
    have h40 : d.items.length ≤ 40 := by
      rw [← hit.len]
      have : ¬ (40 < (xs.length : Int)) := fun z => e2 (decide_eq_true z)
      omega
    -- many = 0; the loop
    refine for_row (K := K) (a := a) (xs := xs) rfl (hrow.same s1) (Same.refl _)
      (fun i σ H2 => ∃ y, σ = [some (.ref a), some (.int ((d.items.map pieceSize).take i).sum), y] ∧ Same H1 H2 ∧ (d.items.take i).all isPiece = true)
      ⟨_, rfl, Same.refl _, rfl⟩ (fun i σ H2 _ ⟨_, _, s2, _⟩ => s2) ?_ ?_
    · rintro i x σ H2 hx ⟨y, rfl, s2, hall⟩
      obtain ⟨c, hc, ac⟩ := hit.at hx
      walk_at "rd"
      refine ⟨x, rfl, x, c, rfl, At.same (s1.trans s2) _ _ ac, fun H3 s3 => ⟨_, rfl, ?_⟩⟩
      cases hp : isPiece c with
      | false =>
        refine iteT ?_
        have e4 : isText d = false := by
          unfold isText
          have : d.items.all isPiece = false := by
            rw [List.all_eq_false]
            exact ⟨c, List.mem_of_getElem? hc, by rw [hp]; exact Bool.false_ne_true⟩
          rw [this, Bool.and_false]
          rfl
        rw [e4] at q
        exact q _ ((s1.trans s2).trans s3)
      | true =>
        refine iteF ?_
        obtain ⟨wd, n, e, hrc, hw, hn⟩ := isPiece_of hp
        obtain ⟨b, ys, rfl, rowb, itb⟩ := at_row (At.same ((s1.trans s2).trans s3) _ _ ac) hrc
        rw [e] at itb
        unfold Ats at itb
        obtain ⟨v1, us, rfl, g1, itb⟩ := itb
        unfold Ats at itb
        obtain ⟨v2, us, rfl, g2, itb⟩ := itb
        unfold Ats at itb
        subst itb
        unfold At at g1 g2
        obtain ⟨rfl, hl⟩ := g1
        subst g2
        have hb : -(2 ^ 64) < (wd.length : Int) ∧ (wd.length : Int) < 2 ^ 64 := by have := hw.2.2; omega
        refine ⟨_, rfl, _, rfl, ix_row rowb (atI_nat (j := 0) rfl) (len_tx hl ⟨_, rfl, ix_row rowb (atI_nat (j := 1) rfl) ⟨_, _, rfl, rfl, .inl hb, ?_⟩⟩)⟩
        refine ⟨_, _, rfl, rfl, some (.ref b), ?_, s2.trans s3, all_take_succ hall hc hp⟩
        have hz : (d.items.map pieceSize)[i]? = some ((wd.length : Int) * n) := by
          rw [List.getElem?_map, hc]
          show some (pieceSize c) = _
          unfold pieceSize
          rw [e]
        rw [isum_take hz]
        rfl
    · rintro σ H2 ⟨y, rfl, s2, hall⟩
      have hxl := hit.len
      rw [hxl, List.take_of_length_le (Nat.le_refl _)] at hall
      refine ⟨_, rfl, _, _, rfl, rfl, ?_⟩
      rw [hxl, List.take_of_length_le (by rw [List.length_map]; exact Nat.le_refl _)]
      have e4 : isText d = decide ((d.items.map pieceSize).sum ≤ 1000000000000000000000000000000) := by
        unfold isText
        rw [hrw, decide_eq_true h40, hall]
        rfl
      rw [e4] at q
      exact q _ (s1.trans s2)

def spCheckText (K : PySem.W.Frag) : Sp := fun vs H Q _ => ∃ v d, vs = [v] ∧ At K H v d ∧ isText d = true ∧ ∀ H', Same H H' → Q .non H'
theorem ok_check_text (T : Txt K mg) : FnOk P w K mg base CX0 6 T.f_check_text.f T.f_check_text.fd ["thing"] (spCheckText K) := by
  refine T.f_check_text.F.ok sc_check_text (fun vs H Q E h => ?_) (fun cdv A outer s H vs Q E hr h => ?_)
  · obtain ⟨v, d, rfl, _⟩ := h
    rfl
  obtain ⟨v, d, rfl, hv, ht, q⟩ := h
  refine ⟨_, (pss_one (ps_if (pt_not (pt_val (pe_call (ok_is_text T) (hr.mono (by decide)) (by rfl) T.f_is_text.g T.f_is_text.F.kp T.f_is_text.b .nil pass0 (pa_cons (pv 0) pa_nil)))) (pss_one ps_never) pss_nil)), ?_⟩
  walk_at "rd"
  refine ⟨v, rfl, v, d, rfl, hv, fun H1 s1 => ⟨_, rfl, ?_⟩⟩
  rw [ht]
  exact iteF (q _ s1)
def spCheckLetter (K : PySem.W.Frag) : Sp := fun vs H Q _ => ∃ c, vs = [.str (tx [c])] ∧ alpha.contains c = true ∧ Q .non H
theorem ok_check_letter (T : Txt K mg) : FnOk P w K mg base CX0 3 T.f_check_letter.f T.f_check_letter.fd ["thing"] (spCheckLetter K) := by
  refine T.f_check_letter.F.ok sc_check_letter (fun vs H Q E h => ?_) (fun cdv A outer s H vs Q E hr h => ?_)
  · obtain ⟨c, rfl, _⟩ := h
    rfl
  obtain ⟨c, rfl, hc, q⟩ := h
  refine ⟨_, (pss_one (ps_if (pt_not (pt_val (pe_call (ok_is_letter T) (hr.mono (by decide)) (by rfl) T.f_is_letter.g T.f_is_letter.F.kp T.f_is_letter.b .nil pass0 (pa_cons (pv 0) pa_nil)))) (pss_one ps_never) pss_nil)), ?_⟩
  walk_at "rd"
  refine ⟨_, rfl, _, .str [c], rfl, by unfold At; exact ⟨rfl, (by show 1 ≤ 1000000; decide)⟩, _, rfl, ?_⟩
  have e : isLetter (.str [c]) = true := by
    show ([c].all (alpha.contains ·) && decide ([c].length = 1)) = true
    rw [List.all_cons, hc]
    rfl
  rw [e]
  exact iteF q

/-! ## spans -/
def spSpansOf (K : PySem.W.Frag) : Sp := fun vs H Q _ => ∃ v ps, vs = [v] ∧ TextAt K H v ps ∧ Good ps ∧ ∀ H' a, Same H H' → SpansAt H' a (spansOf 0 ps) → Q (.ref a) H'
theorem ok_spans_of (T : Txt K mg) : FnOk P w K mg base CX0 1 T.f_spans_of.f T.f_spans_of.fd ["text"] (spSpansOf K) := by
  refine T.f_spans_of.F.ok sc_spans_of (fun vs H Q E h => ?_) (fun cdv A outer s H vs Q E hr h => ?_)
  · obtain ⟨v, d, rfl, _⟩ := h
    rfl
  obtain ⟨v, ps, rfl, hv, hg, q⟩ := h
  obtain ⟨a, xs, rfl, hrow, hps⟩ := hv
  refine ⟨_, (pss_cons (ps_set (i := 1) sc_spans_of.nd rfl (.inl rfl) (pe_lst pa_nil))
      (pss_cons (ps_set (i := 2) sc_spans_of.nd rfl (.inl rfl) pe_int)
      (pss_cons (ps_for PassesOwn.never rfl (pi_seq (pv 0)) (pg_seq rfl (pgs_cons (pg_name (i := 3) sc_spans_of.nd rfl (.inl rfl)) (pgs_cons (pg_name (i := 4) sc_spans_of.nd rfl (.inl rfl)) pgs_nil)))
        (pss_cons (ps_set (i := 5) sc_spans_of.nd rfl (.inl rfl) (pe_op op_add (pv 2) (pe_op op_mul (pe_callB (call_lenK K) (by rfl) T.b_len (by decide +kernel) (pa_cons (pv 3) pa_nil)) (pv 4))))
      (pss_cons (ps_expr (pe_bm PySem.F.plainAttrs_list PySem.F.slot_list_append PySem.F.type_list_append mt_append (pv 1) (pa_cons (pe_tup (pa_cons (pv 2) (pa_cons (pv 5) (pa_cons (pv 3) pa_nil)))) pa_nil)))
      (pss_one (ps_set (i := 2) sc_spans_of.nd rfl (.inl rfl) (pv 5))))))
      (pss_one (ps_ret (pv 1)))))), ?_⟩
  walk_at "rd"
  refine ⟨Nat.zero_le _, fun o no => ?_⟩
  have s1 : Same H (upd H o (.lst [])) := same_upd no
  refine for_row (K := K) (a := a) (xs := xs) rfl hrow s1
    (fun i σ H2 => ∃ y1 y2 y3, σ = [some (.ref a), some (.ref o), some (.int (size (ps.take i) : Nat)), y1, y2, y3] ∧ Same H H2 ∧ SpansAt H2 o ((spansOf 0 ps).take i))
    ⟨none, none, none, rfl, s1, [], upd_same, .nil⟩ (fun i σ H2 _ ⟨_, _, _, _, s2, _⟩ => s2) ?_ ?_
  · rintro i x σ H2 hx ⟨y1, y2, y3, rfl, s2, us, ho, hus⟩
    obtain ⟨p, hp, b, rfl, rowb⟩ := prd_at hps hx
    have hb := hg.ok p (List.mem_of_getElem? hp)
    refine gSeq.row (rowb.same s2) rfl ?_
    walk_at "rd"
    have hl : p.1.length ≤ 60 := hb.1.2.2
    refine ⟨_, _, rfl, _, _, rfl, rfl, ?_⟩
    refine ⟨_, rfl, _, rfl, len_tx (by omega) ⟨_, rfl, _, _, rfl, rfl, .inl ⟨by omega, by omega⟩, _, _, rfl, rfl, ?_⟩⟩
    refine ⟨_, rfl, .inl ⟨rfl, _, SqL.of ho⟩, _, rfl, _, rfl, _, rfl, (by show 3 ≤ sizeLine; decide), fun t nt => ?_⟩
    have hot : o ≠ t := ne_of_none ho nt
    have e : ((size (ps.take (i + 1)) : Nat) : Int) = ((size (ps.take i) : Nat) : Int) + (p.1.length : Int) * (p.2 : Int) := by rw [size_take_succ ps hp, Int.natCast_add, Int.natCast_mul]
    have hxl := (List.getElem?_eq_some_iff.mp hx).1
    have hul : us.length ≤ 40 := by rw [prd_len hus, List.length_take, spansOf_len]; have := hg.few; omega
    refine ⟨_, _, _, rfl, rfl, by rw [upd_ne hot]; exact ho, Nat.lt_of_le_of_lt hul (by decide), _, rfl, some (.str (tx p.1)), some (.int p.2), some (.int (((size (ps.take i) : Nat) : Int) + (p.1.length : Int) * (p.2 : Int))), by rw [e]; rfl, ?_, ?_⟩
    · exact same_mut (s2.trans (same_upd nt)) no
    · refine ⟨_, upd_same, ?_⟩
      rw [List.take_add_one, spansOf_get ps 0 i p hp, Nat.zero_add]
      have ho2 : (upd H2 t (.tup [.int ((size (ps.take i) : Nat) : Int), .int (((size (ps.take i) : Nat) : Int) + (p.1.length : Int) * (p.2 : Int)), .str (tx p.1)])) o = some (.lst us) := by rw [upd_ne hot]; exact ho
      refine prd_snoc (prd_same (fun _ _ k => SpanAt.upd ho2 (SpanAt.same (same_upd nt) k)) hus) ?_
      refine SpanAt.upd ho2 ⟨t, rfl, ?_⟩
      rw [upd_same]
      show some (HO.tup [.int ((size (ps.take i) : Nat) : Int), .int (((size (ps.take i) : Nat) : Int) + (p.1.length : Int) * (p.2 : Int)), .str (tx p.1)]) = some (HO.tup [.int ((size (ps.take i) : Nat) : Int), .int ((size (ps.take i) + p.1.length * p.2 : Nat) : Int), .str (tx p.1)])
      rw [Int.natCast_add, Int.natCast_mul]
  · rintro σ H2 ⟨y1, y2, y3, rfl, s2, hsp⟩
    refine ⟨_, rfl, q _ _ s2 ?_⟩
    rwa [List.take_of_length_le (by rw [spansOf_len, prd_len hps]; exact Nat.le_refl _)] at hsp

def spEndOf (K : PySem.W.Frag) : Sp := fun vs H Q _ => ∃ a ps, vs = [.ref a] ∧ SpansAt H a (spansOf 0 ps) ∧ Q (.int (size ps : Nat)) H
theorem ok_end_of (T : Txt K mg) : FnOk P w K mg base CX0 1 T.f_end_of.f T.f_end_of.fd ["spans"] (spEndOf K) := by
  refine T.f_end_of.F.ok sc_end_of (fun vs H Q E h => ?_) (fun cdv A outer s H vs Q E hr h => ?_)
  · obtain ⟨a, ps, rfl, _⟩ := h
    rfl
  obtain ⟨a, ps, rfl, ⟨us, ha, hus⟩, q⟩ := h
  refine ⟨_, (pss_one (ps_ret (pe_ifExp (pt_truth (pv 0) (by intro _; rfl)) (pe_ix ix_seq (pe_ix ix_seq (pv 0) (pe_un un_neg pe_int) (fun _ _ => rfl)) pe_int (fun _ _ => rfl)) pe_int))), ?_⟩
  walk_at "rd"
  refine ⟨_, rfl, _, .inl ⟨us, SqL.of ha, rfl⟩, ?_⟩
  by_cases hps : ps = []
  · subst hps
    cases hus
    exact iteF q
  · obtain ⟨p, s0, h1, h2⟩ := spansOf_last hps
    have hne : us ≠ [] := fun z => by
      subst z
      cases hus2 : spansOf 0 ps with
      | nil => rw [hus2] at h2; cases h2
      | cons x r => rw [hus2] at hus; cases hus
    have e : (!us.isEmpty) = true := by cases us with
      | nil => exact absurd rfl hne
      | cons _ _ => rfl
    rw [e]
    refine iteT ⟨_, rfl, _, rfl, ?_⟩
    obtain ⟨ys, x, rfl⟩ : ∃ ys x, us = ys ++ [x] := ⟨us.dropLast, us.getLast hne, (List.dropLast_concat_getLast hne).symm⟩
    refine ix_lst ha (atI_last ys x) ?_
    have hx : (ys ++ [x])[ys.length]? = some x := by simp
    obtain ⟨y, hy, b, rfl, hb⟩ := prd_at hus hx
    have hl := prd_len hus
    have ey : y = (s0, size ps, p.1) := by
      rw [List.getLast?_eq_getElem?, ← hl] at h2
      have : (ys ++ [V.ref b]).length - 1 = ys.length := by simp
      rw [this, hy] at h2
      exact Option.some.inj h2
    subst ey
    exact ix_row (.inr (SqT.of hb)) (atI_nat (j := 1) rfl) q

/-! ## words again and again -/
def spStretch (K : PySem.W.Frag) : Sp := fun vs H Q _ => ∃ (x : List Nat) (a m : Nat), vs = [.str (tx x), .int a, .int m] ∧ x ≠ [] ∧ x.length ≤ 60 ∧ m ≤ 2000 ∧ Q (.str (tx (cyc x a m))) H
theorem ok_stretch (T : Txt K mg) : FnOk P w K mg base CX0 1 T.f_stretch.f T.f_stretch.fd ["word", "at", "many"] (spStretch K) := by
  refine T.f_stretch.F.ok sc_stretch (fun vs H Q E h => ?_) (fun cdv A outer s H vs Q E hr h => ?_)
  · obtain ⟨x, a, m, rfl, _⟩ := h
    rfl
  obtain ⟨x, a, m, rfl, hx, hl, hm, q⟩ := h
  have hp : 0 < x.length := List.length_pos_iff.mpr hx
  refine ⟨_, (pss_cons (ps_set (i := 3) sc_stretch.nd rfl (.inl rfl) (pe_op op_mod (pv 1) (pe_callB (call_lenK K) (by rfl) T.b_len (by decide +kernel) (pa_cons (pv 0) pa_nil))))
      (pss_cons (ps_set (i := 4) sc_stretch.nd rfl (.inl rfl) (pe_op op_mul_str (pv 0) (pe_op op_add (pe_op op_fdiv (pe_op op_add (pv 3) (pv 2)) (pe_callB (call_lenK K) (by rfl) T.b_len (by decide +kernel) (pa_cons (pv 0) pa_nil))) pe_int)))
      (pss_one (ps_ret (pe_slice sl_str (pv 4) (po_some (pv 3)) (po_some (pe_op op_add (pv 3) (pv 2)))))))), ?_⟩
  walk_at "rd"
  refine ⟨_, rfl, _, rfl, len_tx (by omega) ⟨_, _, rfl, rfl, by omega, ?_⟩⟩
  refine ⟨_, rfl, _, rfl, _, rfl, _, _, rfl, rfl, _, rfl, len_tx (by omega) ⟨_, _, rfl, rfl, ⟨by omega, by omega⟩, _, _, rfl, rfl, ?_⟩⟩
  have hmod := Nat.mod_lt a hp
  have e1 : ((a : Int) % (x.length : Int) + (m : Int)) / (x.length : Int) + 1 = (((a % x.length + m) / x.length + 1 : Nat) : Int) := by
    rw [Int.natCast_add, Int.natCast_ediv, Int.natCast_add, Int.natCast_emod]
    rfl
  have hb : (a % x.length + m) / x.length + 1 ≤ 2061 := by
    have := Nat.div_le_self (a % x.length + m) x.length
    omega
  refine ⟨tx x, _, rfl, congrArg V.int e1, mul_ok 60 2061 hl hb (by decide) (by decide), ?_⟩
  rw [mul_tx]
  have e2 : (a : Int) % (x.length : Int) = ((a % x.length : Nat) : Int) := (Int.natCast_emod a x.length).symm
  refine ⟨_, rfl, _, rfl, _, rfl, _, rfl, _, rfl, _, _, rfl, rfl, _, rfl, tx (rep x ((a % x.length + m) / x.length + 1)), rfl, ?_, ?_⟩
  · rw [tx_len, rep_len]
    exact Nat.le_trans (Nat.mul_le_mul hb hl) (by decide)
  · show Q (.str (cutS (tx (rep x _)) (some ((a : Int) % (x.length : Int))) (some ((a : Int) % (x.length : Int) + (m : Int))))) H
    rw [e2, show ((a % x.length : Nat) : Int) + (m : Int) = ((a % x.length + m : Nat) : Int) from (Int.natCast_add _ _).symm, cut_nn, Nat.add_sub_cancel_left]
    exact q

def spAmong (K : PySem.W.Frag) : Sp := fun vs H Q _ => ∃ (x : List Nat) (c m : Nat), vs = [.str (tx x), .str (tx [c]), .int m] ∧ x ≠ [] ∧ x.length ≤ 60 ∧ ∀ H', Same H H' → Q (.int ((x.count c * (m / x.length) + (x.take (m % x.length)).count c : Nat) : Int)) H'
theorem ok_among (T : Txt K mg) : FnOk P w K mg base CX0 1 T.f_among.f T.f_among.fd ["word", "sign", "many"] (spAmong K) := by
  refine T.f_among.F.ok sc_among (fun vs H Q E h => ?_) (fun cdv A outer s H vs Q E hr h => ?_)
  · obtain ⟨x, a, m, rfl, _⟩ := h
    rfl
  obtain ⟨x, c, m, rfl, hx, hl, q⟩ := h
  have hp : 0 < x.length := List.length_pos_iff.mpr hx
  refine ⟨_, (pss_cons (ps_asg (pe_callB call_divmod (by rfl) T.b_divmod (by decide +kernel) (pa_cons (pv 2) (pa_cons (pe_callB (call_lenK K) (by rfl) T.b_len (by decide +kernel) (pa_cons (pv 0) pa_nil)) pa_nil))) (pg_tup rfl (pgs_cons (pg_name (i := 3) sc_among.nd rfl (.inl rfl)) (pgs_cons (pg_name (i := 4) sc_among.nd rfl (.inl rfl)) pgs_nil))))
      (pss_one (ps_ret (pe_op op_add (pe_op op_mul (pe_m1 PySem.F.slot_str_count PySem.F.type_str_count mt_count (pv 0) (pv 1)) (pv 3)) (pe_m1 PySem.F.slot_str_count PySem.F.type_str_count mt_count (pe_slice sl_str (pv 0) po_none (po_some (pv 4))) (pv 1)))))), ?_⟩
  walk_at "rd"
  refine ⟨_, rfl, _, rfl, len_tx (by omega) ⟨_, _, rfl, ⟨by omega, by omega⟩, fun t nt => ?_⟩⟩
  have e2 : (m : Int) % (x.length : Int) = ((m % x.length : Nat) : Int) := (Int.natCast_emod m x.length).symm
  have hcount : x.count c ≤ 60 := Nat.le_trans List.count_le_length hl
  refine ⟨t, _, rfl, SqT.of upd_same, rfl, _, _, rfl, _, _, rfl, rfl, ?_⟩
  refine ⟨_, rfl, ⟨_, rfl⟩, _, rfl, _, _, rfl, rfl, _, rfl, _, _, rfl, rfl, .inl ?_, ?_⟩
  · rw [count_tx]
    omega
  · refine ⟨_, rfl, _, rfl, _, rfl, tx x, rfl, by rw [tx_len]; exact Nat.le_trans hl (by decide), ⟨_, rfl⟩, _, rfl, _, _, rfl, rfl, _, _, rfl, rfl, ?_⟩
    show Q (.int (Txt.count (tx x) (tx [c]) * ((m : Int) / (x.length : Int)) + Txt.count (cutS (tx x) none (some ((m : Int) % (x.length : Int)))) (tx [c]))) _
    rw [e2, cut__n, count_tx, count_tx, ← Int.natCast_ediv, ← Int.natCast_mul, ← Int.natCast_add]
    exact q _ (same_upd nt)

/-! ## looks -/
def GoodW (ps : Pcs) : Prop := ∀ p ∈ ps, p.1 ≠ [] ∧ p.1.length ≤ 60
theorem good_w {ps : Pcs} (h : Good ps) : GoodW ps := fun p hp => ⟨(h.ok p hp).1.2.1, (h.ok p hp).1.2.2⟩
def spLook (K : PySem.W.Frag) : Sp := fun vs H Q _ => ∃ a ps place many, vs = [.ref a, .int ((place : Nat) : Int), .int ((many : Nat) : Int)] ∧ SpansAt H a (spansOf 0 ps) ∧ GoodW ps ∧ ps.length ≤ 40 ∧ many ≤ 2000 ∧
  ∀ H', Same H H' → Q (.str (tx (((spell ps).drop place).take many))) H'
theorem ok_look (T : Txt K mg) : FnOk P w K mg base CX0 2 T.f_look.f T.f_look.fd ["spans", "place", "many"] (spLook K) := by
  refine T.f_look.F.ok sc_look (fun vs H Q E h => ?_) (fun cdv A outer s H vs Q E hr h => ?_)
  · obtain ⟨a, ps, place, many, rfl, _⟩ := h
    rfl
  obtain ⟨a, ps, place, many, rfl, ⟨us, ha, hus⟩, hg, hle, hm, q⟩ := h
  refine ⟨_, (pss_cons (ps_set (i := 3) sc_look.nd rfl (.inl rfl) (pe_lst pa_nil))
      (pss_cons (ps_for PassesOwn.never rfl (pi_list (pv 0)) (pg_tup rfl (pgs_cons (pg_name (i := 4) sc_look.nd rfl (.inl rfl)) (pgs_cons (pg_name (i := 5) sc_look.nd rfl (.inl rfl)) (pgs_cons (pg_name (i := 6) sc_look.nd rfl (.inl rfl)) pgs_nil))))
        (pss_cons (ps_set (i := 7) sc_look.nd rfl (.inl rfl) (pe_callB (call_max2 rfl) (by rfl) T.b_max (by decide +kernel) (pa_cons (pv 4) (pa_cons (pv 1) pa_nil))))
      (pss_cons (ps_set (i := 8) sc_look.nd rfl (.inl rfl) (pe_callB (call_min2 rfl) (by rfl) T.b_min (by decide +kernel) (pa_cons (pv 5) (pa_cons (pe_op op_add (pv 1) (pv 2)) pa_nil))))
      (pss_one (ps_if (pt_cmpR op_lt (pv 7) (pv 8) (nomark _)) (pss_one (ps_expr (pe_bm PySem.F.plainAttrs_list PySem.F.slot_list_append PySem.F.type_list_append mt_append (pv 3) (pa_cons (pe_call (ok_stretch T) (hr.mono (by decide)) (by rfl) T.f_stretch.g T.f_stretch.F.kp T.f_stretch.b .nil pass0 (pa_cons (pv 6) (pa_cons (pe_op op_sub (pv 7) (pv 4)) (pa_cons (pe_op op_sub (pv 8) (pv 7)) pa_nil)))) pa_nil)))) pss_nil)))))
      (pss_one (ps_ret (pe_join pe_str (pv 3)))))), ?_⟩
  walk_at "rd"
  refine ⟨Nat.zero_le _, fun o no => ?_⟩
  have s1 : Same H (upd H o (.lst [])) := same_upd no
  refine ⟨_, rfl, a, rfl, ⟨_, SqL.of (s1 _ _ ha)⟩, for_list (K := K) (a := a) (xs := us)
    (fun i σ H2 => ∃ y1 y2 y3 y4 y5 ss, σ = [some (.ref a), some (.int (place : Int)), some (.int (many : Int)), some (.ref o), y1, y2, y3, y4, y5] ∧ Same H H2 ∧ H2 o = some (.lst (ss.map fun x => V.str (tx x))) ∧ ss.length ≤ i ∧ ss.flatten = ((spell (ps.take i)).drop place).take many)
    ⟨none, none, none, none, none, [], rfl, s1, upd_same, Nat.le_refl _, by simp [spell]⟩ (fun i σ H2 _ ⟨_, _, _, _, _, _, _, s2, _⟩ => SqL.of (s2 _ _ ha)) ?_ ?_⟩
  · rintro i x σ H2 hx ⟨y1, y2, y3, y4, y5, ss, rfl, s2, ho, hsl, hss⟩
    obtain ⟨sp, hsp, b, rfl, hb⟩ := prd_at hus hx
    obtain ⟨p, hp, rfl⟩ := spansOf_at ps hsp
    have hgp := hg p (List.mem_of_getElem? hp)
    have hpos : 0 < p.1.length := List.length_pos_iff.mpr hgp.1
    have hsz : (spell (ps.take i)).length = size (ps.take i) := spell_len _
    have hxl := (List.getElem?_eq_some_iff.mp hx).1
    have hul := prd_len hus
    rw [spansOf_len] at hul
    have happ := look_app (spell (ps.take i)) (rep p.1 p.2) place many
    rw [← spell_take_succ hp, rep_len, hsz] at happ
    walk_at "rd"
    refine ⟨b, _, rfl, SqT.of (s2 _ _ hb), rfl, _, _, rfl, _, _, rfl, _, _, rfl, rfl, ?_⟩
    -- low, high
    have hmul : p.2 * p.1.length = p.1.length * p.2 := Nat.mul_comm _ _
    have elow : (if (place : Int) > ((size (ps.take i) : Nat) : Int) then (place : Int) else ((size (ps.take i) : Nat) : Int)) = ((max (size (ps.take i)) place : Nat) : Int) := by
      split <;> omega
    have ehigh : (if (place : Int) + (many : Int) < ((size (ps.take i) + p.1.length * p.2 : Nat) : Int) then (place : Int) + (many : Int) else ((size (ps.take i) + p.1.length * p.2 : Nat) : Int)) = ((min (size (ps.take i) + p.1.length * p.2) (place + many) : Nat) : Int) := by
      split <;> omega
    refine ⟨_, rfl, _, rfl, _, _, rfl, ?_⟩
    rw [elow]
    refine ⟨_, rfl, _, rfl, _, rfl, _, _, rfl, rfl, _, _, rfl, ?_⟩
    rw [ehigh]
    refine ⟨_, rfl, _, rfl, _, _, rfl, rfl, _, rfl, ite2 (fun e => ?_) (fun e => ?_)⟩
    · have hlt : max (size (ps.take i)) place < min (size (ps.take i) + p.1.length * p.2) (place + many) := by
        have := of_decide_eq_true e
        omega
      have e1 : ((max (size (ps.take i)) place : Nat) : Int) - ((size (ps.take i) : Nat) : Int) = ((max (size (ps.take i)) place - size (ps.take i) : Nat) : Int) := by omega
      have e2 : ((min (size (ps.take i) + p.1.length * p.2) (place + many) : Nat) : Int) - ((max (size (ps.take i)) place : Nat) : Int) = ((min (size (ps.take i) + p.1.length * p.2) (place + many) - max (size (ps.take i)) place : Nat) : Int) := by omega
      refine ⟨_, rfl, .inl ⟨rfl, _, SqL.of ho⟩, _, rfl, _, rfl, _, rfl, _, _, rfl, rfl, _, rfl, _, rfl, _, _, rfl, rfl, ?_⟩
      refine ⟨p.1, max (size (ps.take i)) place - size (ps.take i), min (size (ps.take i) + p.1.length * p.2) (place + many) - max (size (ps.take i)) place, ?_, hgp.1, hgp.2, by omega, ?_⟩
      · show [V.str (tx p.1), V.int _, V.int _] = _
        rw [e1, e2]
      refine ⟨o, _, _, rfl, rfl, ho, ?_, ?_⟩
      · rw [List.length_map]
        exact Nat.lt_of_le_of_lt (show ss.length ≤ 40 by omega) (by decide)
      · refine ⟨_, _, _, _, _, ss ++ [cyc p.1 (max (size (ps.take i)) place - size (ps.take i)) (min (size (ps.take i) + p.1.length * p.2) (place + many) - max (size (ps.take i)) place)], rfl, same_mut s2 no, ?_, ?_, ?_⟩
        · rw [upd_same, List.map_append]
          rfl
        · rw [List.length_append]
          show ss.length + 1 ≤ i + 1
          omega
        · rw [List.flatten_append, hss, happ]
          congr 1
          rw [hmul, drop_rep hgp.1 (by rw [hmul]; omega)]
          show [_].flatten = _
          rw [List.flatten_cons, List.flatten_nil, List.append_nil]
    · have hge : min (size (ps.take i) + p.1.length * p.2) (place + many) ≤ max (size (ps.take i)) place := by
        have : ¬ (((max (size (ps.take i)) place : Nat) : Int) < ((min (size (ps.take i) + p.1.length * p.2) (place + many) : Nat) : Int)) := fun z => e (decide_eq_true z)
        omega
      refine ⟨_, _, _, _, _, ss, rfl, s2, ho, by omega, ?_⟩
      rw [hss, happ, hmul, show min (size (ps.take i) + p.1.length * p.2) (place + many) - max (size (ps.take i)) place = 0 by omega, List.take_zero, List.append_nil]
  · rintro σ H2 ⟨y1, y2, y3, y4, y5, ss, rfl, s2, ho, hsl, hss⟩
    have hul := prd_len hus
    rw [spansOf_len] at hul
    rw [hul, List.take_length] at hss
    walk_at "rd"
    refine ⟨⟨_, rfl⟩, _, rfl, tx [], o, ss.map tx, rfl, rfl, .inl (SqL.of (by rw [List.map_map]; exact ho)), ?_, ?_⟩
    · have e1 : ((ss.map tx).map (·.length)) = ss.map (·.length) := by rw [List.map_map]; exact List.map_congr_left fun x _ => tx_len x
      have e2 : ss.flatten.length ≤ many := by rw [hss, List.length_take]; exact Nat.min_le_left _ _
      rw [e1, sum_le_len, tx_len, List.length_nil, Nat.mul_zero]
      omega
    · rw [join_tx, hss]
      exact q _ s2

/-! ## the so-manieth of a sign in a word again and again -/
def spNthAgain (K : PySem.W.Frag) : Sp := fun vs H Q _ => ∃ (x : List Nat) (c k : Nat), vs = [.str (tx x), .str (tx [c]), .int (k : Int)] ∧ x ≠ [] ∧ x.length ≤ 60 ∧ c ∈ x ∧ ∀ H' (i : Nat), Same H H' → (∀ n, k < n * x.count c → IsNth (rep x n) c k i) → Q (.int (i : Int)) H'
theorem ok_nth_again (T : Txt K mg) : FnOk P w K mg base CX0 1 T.f_nth_again.f T.f_nth_again.fd ["word", "sign", "number"] (spNthAgain K) := by
  refine T.f_nth_again.F.ok sc_nth_again (fun vs H Q E h => ?_) (fun cdv A outer s H vs Q E hr h => ?_)
  · obtain ⟨x, c, k, rfl, _⟩ := h
    rfl
  obtain ⟨x, c, k, rfl, hx, hl, hc, q⟩ := h
  have hcp : 0 < x.count c := List.count_pos_iff.mpr hc
  refine ⟨_, (pss_cons (ps_setLc (i := 3) (own := [("at", 6)]) rfl sc_nth_again.nd rfl rfl (sw_true rfl rfl rfl (by decide +kernel)) (pi_range1 (by rfl) T.b_range (pa_cons (pe_callB (call_lenK K) (by rfl) T.b_len (by decide +kernel) (pa_cons (pv 0) pa_nil)) pa_nil)) (blkOk_by (own := [("at", 6)]) (N := N_nth_again) (sc := defScope s_nth_again) (by decide +kernel)) (fun _ _ _ _ _ => (pg_name (i := 6) sc_nth_again.nd rfl (.inl rfl))) (fun _ _ _ _ _ => (pts_one (pt_cmpR op_eq (pe_ix (ix_seqK K) (pv 0) (pv 6) (fun _ _ => rfl)) (pv 1) (nomark _)))) (fun _ _ _ _ _ => (pv 6)))
      (pss_cons (ps_asg (pe_callB call_divmod (by rfl) T.b_divmod (by decide +kernel) (pa_cons (pv 2) (pa_cons (pe_callB (call_lenK K) (by rfl) T.b_len (by decide +kernel) (pa_cons (pv 3) pa_nil)) pa_nil))) (pg_tup rfl (pgs_cons (pg_name (i := 4) sc_nth_again.nd rfl (.inl rfl)) (pgs_cons (pg_name (i := 5) sc_nth_again.nd rfl (.inl rfl)) pgs_nil))))
      (pss_one (ps_ret (pe_op op_add (pe_op op_mul (pv 4) (pe_callB (call_lenK K) (by rfl) T.b_len (by decide +kernel) (pa_cons (pv 0) pa_nil))) (pe_ix ix_seq (pv 3) (pv 5) (fun _ _ => rfl))))))), ?_⟩
  walk_at "rd"
  refine lc_rng1 ?_
  walk_at "rd"
  refine ⟨_, rfl, len_tx (by omega) ⟨_, rfl, by omega, by omega, fun D hD => ?_⟩⟩
  have s1 : Same H (upd H D (.lst [])) := same_upd hD
  refine LcGo.range (fun i H2 => Same H H2 ∧ H2 D = some (.lst (((List.range i).filter fun j => x[j]? == some c).map fun j : Nat => V.int (j : Int)))) ⟨s1, upd_same⟩ ?_ ?_
  · rintro i H2 hi ⟨s2, h2⟩
    have hil : i < x.length := by omega
    have hg : x[i]? = some x[i] := List.getElem?_eq_getElem hil
    have hat : atI x (0 + (i : Int)) = some x[i] := at_ofA (j := i) (by omega) hg
    walk_at "rd"
    refine ⟨rfl, _, rfl, _, rfl, ix_tx (show x.length ≤ 1000000 by omega) hat ⟨_, rfl, rfl, _, rfl, ite2 (fun e => ?_) (fun e => ?_)⟩⟩
    · have ec : x[i] = c := by have := tx_inj (V.str.inj (of_decide_eq_true e)); simpa using this
      refine ⟨_, rfl, _, h2, ?_, same_mut s2 hD, ?_⟩
      · rw [List.length_map]
        refine Nat.lt_of_le_of_lt (List.length_filter_le _ _) ?_
        rw [List.length_range]
        exact Nat.lt_of_lt_of_le (show i < 60 by omega) (by decide)
      · rw [upd_same, List.range_succ, List.filter_append, List.map_append]
        have e2 : (List.filter (fun j => x[j]? == some c) [i]) = [i] := by
          rw [List.filter_cons, hg, ec]
          simp
        rw [e2]
        show some (HO.lst (_ ++ [V.int (0 + (i : Int))])) = some (HO.lst (_ ++ [V.int (i : Int)]))
        rw [Int.zero_add]
    · have ec : x[i] ≠ c := fun z => e (decide_eq_true (by rw [z]))
      refine ⟨s2, ?_⟩
      rw [h2, List.range_succ, List.filter_append]
      have e2 : (List.filter (fun j => x[j]? == some c) [i]) = [] := by
        rw [List.filter_cons, hg]
        simp [ec]
      rw [e2, List.append_nil]
  · rintro H2 ⟨s2, h2⟩
    rw [Int.toNat_natCast] at h2
    have h3 : H2 D = some (.lst ((pos x c).map fun j : Nat => V.int (j : Int))) := h2
    have hpl : ((pos x c).map fun j : Nat => V.int (j : Int)).length = x.count c := by rw [List.length_map, pos_len]
    have hc60 : x.count c ≤ 60 := Nat.le_trans List.count_le_length hl
    walk_at "rd"
    refine ⟨_, rfl, _, rfl, len_row (.inl (SqL.of h3)) ⟨_, _, rfl, ⟨by rw [hpl]; omega, by rw [hpl]; omega⟩, fun t nt => ?_⟩⟩
    rw [hpl]
    have hDt : D ≠ t := ne_of_none h3 nt
    refine ⟨t, _, rfl, SqT.of upd_same, rfl, _, _, rfl, _, _, rfl, rfl, ?_⟩
    have hlt : k % x.count c < (pos x c).length := by rw [pos_len]; exact Nat.mod_lt _ hcp
    have hn := pos_get (List.getElem?_eq_getElem hlt)
    refine ⟨_, rfl, _, rfl, len_tx (by omega) ⟨_, _, rfl, rfl, .inr ⟨by omega, by omega⟩, _, rfl, _, rfl, ix_lst (by rw [upd_ne hDt]; exact h3) (at_of (j := k % x.count c) (Int.natCast_emod k _).symm (by rw [List.getElem?_map, List.getElem?_eq_getElem hlt]; rfl)) ⟨_, _, rfl, rfl, ?_⟩⟩⟩
    show Q (.int ((k : Int) / (x.count c : Int) * (x.length : Int) + _)) _
    rw [← Int.natCast_ediv, ← Int.natCast_mul, ← Int.natCast_add]
    refine q _ _ (s2.trans (same_upd nt)) fun n hk => ?_
    have hq : k / x.count c < n := (Nat.div_lt_iff_lt_mul hcp).mpr hk
    have := nth_rep hn hq
    rw [Nat.div_add_mod' k (x.count c)] at this
    exact this

/-! ## the interface of texts -/
def spLength (K : PySem.W.Frag) : Sp := fun vs H Q _ => ∃ v d, vs = [v] ∧ At K H v d ∧ isText d = true ∧ ∀ H', Same H H' → Q (.int (size (pcs d) : Nat)) H'
def spLetter (K : PySem.W.Frag) : Sp := fun vs H Q _ => ∃ (v : V) (d : Dt) (place c : Nat), vs = [v, .int (place : Int)] ∧ At K H v d ∧ isText d = true ∧ (spell (pcs d))[place]? = some c ∧ ∀ H', Same H H' → Q (.str (tx [c])) H'
theorem within_ok {i lo hi : Int} (h1 : lo ≤ i) (h2 : i ≤ hi) : isWithin (.int i) lo hi = true := by
  show (decide (lo ≤ i) && decide (i ≤ hi)) = true
  rw [decide_eq_true h1, decide_eq_true h2]
  rfl
theorem at_int {K : PySem.W.Frag} {H : Hp} {i : Int} : At K H (.int i) (.int i) := by
  unfold At
  rfl
theorem ok_letter (T : Txt K mg) : FnOk P w K mg base CX0 7 T.f_letter.f T.f_letter.fd ["text", "place"] (spLetter K) := by
  refine T.f_letter.F.ok sc_letter (fun vs H Q E h => ?_) (fun cdv A outer s H vs Q E hr h => ?_)
  · obtain ⟨v, d, place, c, rfl, _⟩ := h
    rfl
  obtain ⟨v, d, place, c, rfl, hv, ht, hc, q⟩ := h
  have hg := Good.of ht
  have hlt := (List.getElem?_eq_some_iff.mp hc).1
  rw [spell_len] at hlt
  refine ⟨_, (pss_cons (ps_expr (pe_call (ok_check_text T) (hr.mono (by decide)) (by rfl) T.f_check_text.g T.f_check_text.F.kp T.f_check_text.b .nil pass0 (pa_cons (pv 0) pa_nil)))
      (pss_cons (ps_set (i := 2) sc_letter.nd rfl (.inl rfl) (pe_call (ok_spans_of T) (hr.mono (by decide)) (by rfl) T.f_spans_of.g T.f_spans_of.F.kp T.f_spans_of.b .nil pass0 (pa_cons (pv 0) pa_nil)))
      (pss_cons (ps_if (pt_not (pt_val (pe_call (ok_is_within T) (hr.mono (by decide)) (by rfl) T.f_is_within.g T.f_is_within.F.kp T.f_is_within.b .nil pass0 (pa_cons (pv 1) (pa_cons pe_int (pa_cons (pe_op op_sub (pe_call (ok_end_of T) (hr.mono (by decide)) (by rfl) T.f_end_of.g T.f_end_of.F.kp T.f_end_of.b .nil pass0 (pa_cons (pv 2) pa_nil)) pe_int) pa_nil)))))) (pss_one ps_never) pss_nil)
      (pss_one (ps_ret (pe_call (ok_look T) (hr.mono (by decide)) (by rfl) T.f_look.g T.f_look.F.kp T.f_look.b .nil pass0 (pa_cons (pv 2) (pa_cons (pv 1) (pa_cons pe_int pa_nil))))))))), ?_⟩
  walk_at "rd"
  refine ⟨v, rfl, v, d, rfl, hv, ht, fun H1 s1 => ?_⟩
  refine ⟨v, rfl, v, pcs d, rfl, (textAt_of hv ht).same s1, hg, fun H2 a s2 hs => ?_⟩
  refine ⟨_, rfl, _, rfl, a, pcs d, rfl, hs, _, _, rfl, rfl, _, .int place, 0, _, rfl, at_int, _, rfl, ?_⟩
  rw [within_ok (by omega) (by omega)]
  refine iteF ⟨_, rfl, _, rfl, a, pcs d, place, 1, rfl, hs, good_w hg, hg.few, by decide, fun H3 s3 => ?_⟩
  have e : ((spell (pcs d)).drop place).take 1 = [c] := by
    rw [List.drop_eq_getElem_cons (by rw [spell_len]; exact hlt), List.take_succ_cons, List.take_zero, (List.getElem?_eq_some_iff.mp hc).2]
  rw [e]
  exact q _ ((s1.trans s2).trans s3)
def spLooks (K : PySem.W.Frag) : Sp := fun vs H Q _ => ∃ (v : V) (d : Dt) (place many : Nat), vs = [v, .int (place : Int), .int (many : Int)] ∧ At K H v d ∧ isText d = true ∧ place ≤ size (pcs d) ∧ many ≤ 2000 ∧ ∀ H', Same H H' → Q (.str (tx (((spell (pcs d)).drop place).take many))) H'
theorem ok_looks (T : Txt K mg) : FnOk P w K mg base CX0 7 T.f_looks.f T.f_looks.fd ["text", "place", "many"] (spLooks K) := by
  refine T.f_looks.F.ok sc_looks (fun vs H Q E h => ?_) (fun cdv A outer s H vs Q E hr h => ?_)
  · obtain ⟨v, d, place, c, rfl, _⟩ := h
    rfl
  obtain ⟨v, d, place, many, rfl, hv, ht, hp, hm, q⟩ := h
  have hg := Good.of ht
  refine ⟨_, (pss_cons (ps_expr (pe_call (ok_check_text T) (hr.mono (by decide)) (by rfl) T.f_check_text.g T.f_check_text.F.kp T.f_check_text.b .nil pass0 (pa_cons (pv 0) pa_nil)))
      (pss_cons (ps_set (i := 3) sc_looks.nd rfl (.inl rfl) (pe_call (ok_spans_of T) (hr.mono (by decide)) (by rfl) T.f_spans_of.g T.f_spans_of.F.kp T.f_spans_of.b .nil pass0 (pa_cons (pv 0) pa_nil)))
      (pss_cons (ps_if (pt_not (pt_val (pe_call (ok_is_within T) (hr.mono (by decide)) (by rfl) T.f_is_within.g T.f_is_within.F.kp T.f_is_within.b .nil pass0 (pa_cons (pv 1) (pa_cons pe_int (pa_cons (pe_call (ok_end_of T) (hr.mono (by decide)) (by rfl) T.f_end_of.g T.f_end_of.F.kp T.f_end_of.b .nil pass0 (pa_cons (pv 3) pa_nil)) pa_nil)))))) (pss_one ps_never) pss_nil)
      (pss_cons (ps_if (pt_not (pt_val (pe_call (ok_is_within T) (hr.mono (by decide)) (by rfl) T.f_is_within.g T.f_is_within.F.kp T.f_is_within.b .nil pass0 (pa_cons (pv 2) (pa_cons pe_int (pa_cons (pe_c_LONGEST_LOOK T) pa_nil)))))) (pss_one ps_never) pss_nil)
      (pss_one (ps_ret (pe_call (ok_look T) (hr.mono (by decide)) (by rfl) T.f_look.g T.f_look.F.kp T.f_look.b .nil pass0 (pa_cons (pv 3) (pa_cons (pv 1) (pa_cons (pv 2) pa_nil)))))))))), ?_⟩
  walk_at "rd"
  refine ⟨v, rfl, v, d, rfl, hv, ht, fun H1 s1 => ?_⟩
  refine ⟨v, rfl, v, pcs d, rfl, (textAt_of hv ht).same s1, hg, fun H2 a s2 hs => ?_⟩
  refine ⟨_, rfl, _, rfl, a, pcs d, rfl, hs, _, .int place, 0, _, rfl, at_int, _, rfl, ?_⟩
  rw [within_ok (by omega) (by omega)]
  refine iteF ⟨_, rfl, _, .int many, 0, _, rfl, at_int, _, rfl, ?_⟩
  rw [within_ok (by omega) (by omega)]
  exact iteF ⟨_, rfl, _, rfl, _, rfl, a, pcs d, place, many, rfl, hs, good_w hg, hg.few, hm, fun H3 s3 => q _ ((s1.trans s2).trans s3)⟩
def spCount (K : PySem.W.Frag) : Sp := fun vs H Q _ => ∃ (v : V) (d : Dt) (c many : Nat), vs = [v, .str (tx [c]), .int (many : Int)] ∧ At K H v d ∧ isText d = true ∧ alpha.contains c = true ∧ many ≤ size (pcs d) ∧ ∀ H', Same H H' → Q (.int ((((spell (pcs d)).take many).count c : Nat) : Int)) H'
theorem ok_count (T : Txt K mg) : FnOk P w K mg base CX0 7 T.f_count.f T.f_count.fd ["text", "sign", "many"] (spCount K) := by
  refine T.f_count.F.ok sc_count (fun vs H Q E h => ?_) (fun cdv A outer s H vs Q E hr h => ?_)
  · obtain ⟨v, d, place, c, rfl, _⟩ := h
    rfl
  obtain ⟨v, d, c, many, rfl, hv, ht, hc, hm, q⟩ := h
  have hg := Good.of ht
  refine ⟨_, (pss_cons (ps_expr (pe_call (ok_check_text T) (hr.mono (by decide)) (by rfl) T.f_check_text.g T.f_check_text.F.kp T.f_check_text.b .nil pass0 (pa_cons (pv 0) pa_nil)))
      (pss_cons (ps_expr (pe_call (ok_check_letter T) (hr.mono (by decide)) (by rfl) T.f_check_letter.g T.f_check_letter.F.kp T.f_check_letter.b .nil pass0 (pa_cons (pv 1) pa_nil)))
      (pss_cons (ps_set (i := 3) sc_count.nd rfl (.inl rfl) (pe_call (ok_spans_of T) (hr.mono (by decide)) (by rfl) T.f_spans_of.g T.f_spans_of.F.kp T.f_spans_of.b .nil pass0 (pa_cons (pv 0) pa_nil)))
      (pss_cons (ps_if (pt_not (pt_val (pe_call (ok_is_within T) (hr.mono (by decide)) (by rfl) T.f_is_within.g T.f_is_within.F.kp T.f_is_within.b .nil pass0 (pa_cons (pv 2) (pa_cons pe_int (pa_cons (pe_call (ok_end_of T) (hr.mono (by decide)) (by rfl) T.f_end_of.g T.f_end_of.F.kp T.f_end_of.b .nil pass0 (pa_cons (pv 3) pa_nil)) pa_nil)))))) (pss_one ps_never) pss_nil)
      (pss_cons (ps_set (i := 4) sc_count.nd rfl (.inl rfl) pe_int)
      (pss_cons (ps_for PassesOwn.never rfl (pi_list (pv 3)) (pg_tup rfl (pgs_cons (pg_name (i := 5) sc_count.nd rfl (.inl rfl)) (pgs_cons (pg_name (i := 6) sc_count.nd rfl (.inl rfl)) (pgs_cons (pg_name (i := 7) sc_count.nd rfl (.inl rfl)) pgs_nil))))
        (pss_one (ps_if (pt_cmpR op_lt (pv 5) (pv 2) (nomark _)) (pss_one (ps_aug (i := 4) sc_count.nd rfl (.inl rfl) (pe_call (ok_among T) (hr.mono (by decide)) (by rfl) T.f_among.g T.f_among.F.kp T.f_among.b .nil pass0 (pa_cons (pv 7) (pa_cons (pv 1) (pa_cons (pe_op op_sub (pe_callB (call_min2 rfl) (by rfl) T.b_min (by decide +kernel) (pa_cons (pv 6) (pa_cons (pv 2) pa_nil))) (pv 5)) pa_nil)))) ip_add)) pss_nil)))
      (pss_one (ps_ret (pv 4))))))))), ?_⟩
  walk_at "rd"
  refine ⟨v, rfl, v, d, rfl, hv, ht, fun H1 s1 => ?_⟩
  refine ⟨_, rfl, c, rfl, hc, ?_⟩
  refine ⟨v, rfl, v, pcs d, rfl, (textAt_of hv ht).same s1, hg, fun H2 a s2 hs => ?_⟩
  refine ⟨_, rfl, _, rfl, a, pcs d, rfl, hs, _, .int many, 0, _, rfl, at_int, _, rfl, ?_⟩
  rw [within_ok (by omega) (by omega)]
  refine iteF ?_
  obtain ⟨us, ha, hus⟩ := hs
  refine fr_list ?_
  walk_at "rd"
  refine ⟨_, rfl, a, rfl, ⟨_, SqL.of ha⟩, ForGo.list (xs := us)
    (fun i σ H3 => ∃ y1 y2 y3, σ = [some v, some (.str (tx [c])), some (.int (many : Int)), some (.ref a), some (.int ((((spell ((pcs d).take i)).take many).count c : Nat) : Int)), y1, y2, y3] ∧ Same H2 H3)
    ⟨none, none, none, by rw [List.take_zero, spell_nil, List.take_nil]; rfl, Same.refl _⟩ (fun i σ H3 _ ⟨_, _, _, _, s3⟩ => SqL.of (s3 _ _ ha)) ?_ ?_⟩
  · rintro i x σ H3 hx ⟨y1, y2, y3, rfl, s3⟩
    obtain ⟨sp, hsp, b, rfl, hb⟩ := prd_at hus hx
    obtain ⟨p, hp, rfl⟩ := spansOf_at _ hsp
    have hgp := good_w hg p (List.mem_of_getElem? hp)
    have hsz : (spell ((pcs d).take i)).length = size ((pcs d).take i) := spell_len _
    have happ := count_app (spell ((pcs d).take i)) (rep p.1 p.2) c many
    have hmul : p.2 * p.1.length = p.1.length * p.2 := Nat.mul_comm _ _
    rw [← spell_take_succ hp, rep_len, hsz, hmul] at happ
    walk_at "rd"
    refine ⟨b, _, rfl, SqT.of (s3 _ _ hb), rfl, _, _, rfl, _, _, rfl, _, _, rfl, rfl, ?_⟩
    refine ⟨_, rfl, _, rfl, _, _, rfl, rfl, _, rfl, ite2 (fun e => ?_) (fun e => ?_)⟩
    · have hlt : size ((pcs d).take i) < many := by have := of_decide_eq_true e; omega
      refine ⟨_, rfl, _, rfl, _, rfl, _, rfl, _, rfl, _, _, rfl, _, rfl, _, _, rfl, rfl, ?_⟩
      have emin : (if (many : Int) < ((size ((pcs d).take i) + p.1.length * p.2 : Nat) : Int) then (many : Int) else ((size ((pcs d).take i) + p.1.length * p.2 : Nat) : Int)) - ((size ((pcs d).take i) : Nat) : Int) = ((min (size ((pcs d).take i) + p.1.length * p.2) many - size ((pcs d).take i) : Nat) : Int) := by
        split <;> omega
      refine ⟨p.1, c, min (size ((pcs d).take i) + p.1.length * p.2) many - size ((pcs d).take i), ?_, hgp.1, hgp.2, fun H4 s4 => ⟨_, _, rfl, rfl, ?_⟩⟩
      · show [V.str (tx p.1), V.str (tx [c]), V.int _] = _
        rw [← emin]
      · rw [rep_take_count hgp.1 c (by rw [hmul]; omega)] at happ
        rw [happ, Int.natCast_add]
        exact ⟨_, _, _, rfl, s3.trans s4⟩
    · have hge : many ≤ size ((pcs d).take i) := by
        have : ¬ (((size ((pcs d).take i) : Nat) : Int) < (many : Int)) := fun z => e (decide_eq_true z)
        omega
      rw [show min (size ((pcs d).take i) + p.1.length * p.2) many - size ((pcs d).take i) = 0 by omega, List.take_zero, List.count_nil, Nat.add_zero] at happ
      rw [happ]
      exact ⟨_, _, _, rfl, s3⟩
  · rintro σ H3 ⟨y1, y2, y3, rfl, s3⟩
    have hul := prd_len hus
    rw [spansOf_len] at hul
    rw [hul, List.take_length]
    exact ⟨_, rfl, q _ ((s1.trans s2).trans s3)⟩

def spNth (K : PySem.W.Frag) : Sp := fun vs H Q _ => ∃ (v : V) (d : Dt) (c k : Nat), vs = [v, .str (tx [c]), .int (k : Int)] ∧ At K H v d ∧ isText d = true ∧ alpha.contains c = true ∧
  (∀ H' i, Same H H' → IsNth (spell (pcs d)) c k i → Q (.int (i : Int)) H') ∧ (∀ H', Same H H' → (spell (pcs d)).count c ≤ k → Q .non H')
theorem ok_nth (T : Txt K mg) : FnOk P w K mg base CX0 7 T.f_nth.f T.f_nth.fd ["text", "sign", "number"] (spNth K) := by
  refine T.f_nth.F.ok sc_nth (fun vs H Q E h => ?_) (fun cdv A outer s H vs Q E hr h => ?_)
  · obtain ⟨v, d, place, c, rfl, _⟩ := h
    rfl
  obtain ⟨v, d, c, k, rfl, hv, ht, hc, q1, q2⟩ := h
  have hg := Good.of ht
  refine ⟨_, (pss_cons (ps_expr (pe_call (ok_check_text T) (hr.mono (by decide)) (by rfl) T.f_check_text.g T.f_check_text.F.kp T.f_check_text.b .nil pass0 (pa_cons (pv 0) pa_nil)))
      (pss_cons (ps_expr (pe_call (ok_check_letter T) (hr.mono (by decide)) (by rfl) T.f_check_letter.g T.f_check_letter.F.kp T.f_check_letter.b .nil pass0 (pa_cons (pv 1) pa_nil)))
      (pss_cons (ps_if (pt_not (pt_val (pe_call (ok_is_whole T) (hr.mono (by decide)) (by rfl) T.f_is_whole.g T.f_is_whole.F.kp T.f_is_whole.b .nil pass0 (pa_cons (pv 2) (pa_cons pe_int pa_nil))))) (pss_one ps_never) pss_nil)
      (pss_cons (ps_set (i := 3) sc_nth.nd rfl (.inl rfl) pe_int)
      (pss_cons (ps_for PassesOwn.never rfl (pi_list (pe_call (ok_spans_of T) (hr.mono (by decide)) (by rfl) T.f_spans_of.g T.f_spans_of.F.kp T.f_spans_of.b .nil pass0 (pa_cons (pv 0) pa_nil))) (pg_tup rfl (pgs_cons (pg_name (i := 4) sc_nth.nd rfl (.inl rfl)) (pgs_cons (pg_name (i := 5) sc_nth.nd rfl (.inl rfl)) (pgs_cons (pg_name (i := 6) sc_nth.nd rfl (.inl rfl)) pgs_nil))))
        (pss_cons (ps_set (i := 7) sc_nth.nd rfl (.inl rfl) (pe_call (ok_among T) (hr.mono (by decide)) (by rfl) T.f_among.g T.f_among.F.kp T.f_among.b .nil pass0 (pa_cons (pv 6) (pa_cons (pv 1) (pa_cons (pe_op op_sub (pv 5) (pv 4)) pa_nil)))))
      (pss_cons (ps_if (pt_cmpR op_lt (pv 2) (pe_op op_add (pv 3) (pv 7)) (nomark _)) (pss_one (ps_ret (pe_op op_add (pv 4) (pe_call (ok_nth_again T) (hr.mono (by decide)) (by rfl) T.f_nth_again.g T.f_nth_again.F.kp T.f_nth_again.b .nil pass0 (pa_cons (pv 6) (pa_cons (pv 1) (pa_cons (pe_op op_sub (pv 2) (pv 3)) pa_nil))))))) pss_nil)
      (pss_one (ps_aug (i := 3) sc_nth.nd rfl (.inl rfl) (pv 7) ip_add)))))
      (pss_one (ps_ret pe_non))))))), ?_⟩
  walk_at "rd"
  refine ⟨v, rfl, v, d, rfl, hv, ht, fun H1 s1 => ?_⟩
  refine ⟨_, rfl, c, rfl, hc, ?_⟩
  refine ⟨_, rfl, _, .int k, 0, rfl, at_int, _, rfl, ?_⟩
  have e0 : isWhole (.int (k : Int)) 0 = true := by
    show decide ((0 : Int) ≤ (k : Int)) = true
    exact decide_eq_true (by omega)
  rw [e0]
  refine iteF ?_
  refine fr_list ?_
  walk_at "rd"
  refine ⟨v, rfl, v, pcs d, rfl, (textAt_of hv ht).same s1, hg, fun H2 a s2 hs => ?_⟩
  obtain ⟨us, ha, hus⟩ := hs
  refine ⟨a, rfl, ⟨_, SqL.of ha⟩, ForGo.list (xs := us)
    (fun i σ H3 => ∃ y1 y2 y3 y4, σ = [some v, some (.str (tx [c])), some (.int (k : Int)), some (.int (((spell ((pcs d).take i)).count c : Nat) : Int)), y1, y2, y3, y4] ∧ Same H2 H3 ∧ (spell ((pcs d).take i)).count c ≤ k)
    ⟨none, none, none, none, rfl, Same.refl _, Nat.zero_le _⟩ (fun i σ H3 _ ⟨_, _, _, _, _, s3, _⟩ => SqL.of (s3 _ _ ha)) ?_ ?_⟩
  · rintro i x σ H3 hx ⟨y1, y2, y3, y4, rfl, s3, hk⟩
    obtain ⟨sp, hsp, b, rfl, hb⟩ := prd_at hus hx
    obtain ⟨p, hp, rfl⟩ := spansOf_at _ hsp
    have hgp := good_w hg p (List.mem_of_getElem? hp)
    have hmul : p.2 * p.1.length = p.1.length * p.2 := Nat.mul_comm _ _
    have hcut : spell (pcs d) = spell ((pcs d).take (i + 1)) ++ spell ((pcs d).drop (i + 1)) := by rw [← spell_app, List.take_append_drop]
    have hall := rep_take_count (n := p.2) (m := p.1.length * p.2) hgp.1 c (by rw [hmul]; exact Nat.le_refl _)
    rw [List.take_of_length_le (by rw [rep_len, hmul]; exact Nat.le_refl _)] at hall
    walk_at "rd"
    refine ⟨b, _, rfl, SqT.of (s3 _ _ hb), rfl, _, _, rfl, _, _, rfl, _, _, rfl, rfl, ?_⟩
    have esub : ((size ((pcs d).take i) + p.1.length * p.2 : Nat) : Int) - ((size ((pcs d).take i) : Nat) : Int) = ((p.1.length * p.2 : Nat) : Int) := by omega
    refine ⟨_, rfl, _, rfl, _, rfl, _, rfl, _, _, rfl, rfl, p.1, c, p.1.length * p.2, ?_, hgp.1, hgp.2, fun H4 s4 => ?_⟩
    · show [V.str (tx p.1), V.str (tx [c]), V.int _] = _
      rw [← esub]
    rw [← hall]
    refine ⟨_, rfl, _, rfl, _, rfl, _, _, rfl, rfl, _, _, rfl, rfl, _, rfl, ite2 (fun e => ?_) (fun e => ?_)⟩
    · have hlt : k < (spell ((pcs d).take i)).count c + (rep p.1 p.2).count c := by have := of_decide_eq_true e; omega
      have ek : (k : Int) - (((spell ((pcs d).take i)).count c : Nat) : Int) = ((k - (spell ((pcs d).take i)).count c : Nat) : Int) := by omega
      rw [rep_count] at hlt
      have hcx : c ∈ p.1 := by
        rw [← List.count_pos_iff]
        rcases Nat.eq_zero_or_pos (p.1.count c) with z | z
        · rw [z, Nat.mul_zero] at hlt
          omega
        · exact z
      refine ⟨_, rfl, _, rfl, _, rfl, _, rfl, _, rfl, _, _, rfl, rfl, p.1, c, k - (spell ((pcs d).take i)).count c, ?_, hgp.1, hgp.2, hcx, fun H5 j s5 hj => ⟨_, _, rfl, rfl, ?_⟩⟩
      · show [V.str (tx p.1), V.str (tx [c]), V.int _] = _
        rw [← ek]
      · show Q (.int (((size ((pcs d).take i) : Nat) : Int) + (j : Int))) H5
        rw [← Int.natCast_add, ← spell_len]
        refine q1 _ _ ((((s1.trans s2).trans s3).trans s4).trans s5) ?_
        rw [hcut, spell_take_succ hp]
        refine nth_app_left ?_
        have := nth_app_right (A := spell ((pcs d).take i)) (hj p.2 (by omega))
        rw [show (spell ((pcs d).take i)).count c + (k - (spell ((pcs d).take i)).count c) = k by omega] at this
        exact this
    · have hge : (spell ((pcs d).take i)).count c + (rep p.1 p.2).count c ≤ k := by
        have : ¬ ((k : Int) < (((spell ((pcs d).take i)).count c : Nat) : Int) + (((rep p.1 p.2).count c : Nat) : Int)) := fun z => e (decide_eq_true z)
        omega
      refine ⟨_, rfl, _, rfl, _, _, rfl, rfl, ?_⟩
      rw [spell_take_succ hp, List.count_append, Int.natCast_add]
      exact ⟨_, _, _, _, rfl, s3.trans s4, hge⟩
  · rintro σ H3 ⟨y1, y2, y3, y4, rfl, s3, hk⟩
    have hul := prd_len hus
    rw [spansOf_len] at hul
    rw [hul, List.take_length] at hk
    walk_at "rd"
    exact q2 _ ((s1.trans s2).trans s3) hk

theorem prd_app {α β : Type} {R : α → β → Prop} {xs xs' : List α} {ys ys' : List β} (h : Paired R xs ys) (h' : Paired R xs' ys') : Paired R (xs ++ xs') (ys ++ ys') := by
  induction h with
  | nil => exact h'
  | cons a t ih => exact .cons a ih
/-! ## where two texts part -/
def spSplitAt : Sp := fun vs H Q _ => ∃ x y : List Nat, vs = [.str (tx x), .str (tx y)] ∧ x.length ≤ 1000000 ∧ y.length ≤ 1000000 ∧ x ≠ y ∧ ∀ i : Nat, Unlike x y i → Q (.int (i : Int)) H
def spFirstUnlike (K : PySem.W.Frag) : Sp := fun vs H Q _ => ∃ v u d e, vs = [v, u] ∧ At K H v d ∧ At K H u e ∧ isText d = true ∧ isText e = true ∧
  (∀ H' (i : Nat), Same H H' → Unlike (spell (pcs d)) (spell (pcs e)) i → Q (.int (i : Int)) H') ∧ (∀ H', Same H H' → spell (pcs d) = spell (pcs e) → Q .non H')
theorem spansOf_ends (ps : Pcs) {v : Nat} (h : v ∈ (spansOf 0 ps).map fun x => x.2.1) : ∃ k, k < ps.length ∧ v = size (ps.take (k + 1)) := by
  obtain ⟨x, hx, rfl⟩ := List.mem_map.mp h
  obtain ⟨k, hk⟩ := List.mem_iff_getElem?.mp hx
  obtain ⟨p, hp, rfl⟩ := spansOf_at ps hk
  exact ⟨k, (List.getElem?_eq_some_iff.mp hp).1, by rw [size_take_succ ps hp]⟩
theorem ends_spansOf (ps : Pcs) {k : Nat} (h : k < ps.length) : size (ps.take (k + 1)) ∈ (spansOf 0 ps).map fun x => x.2.1 := by
  have e := spansOf_get ps 0 k ps[k] (List.getElem?_eq_getElem h)
  refine List.mem_map.mpr ⟨_, List.mem_of_getElem? e, ?_⟩
  show 0 + size (ps.take k) + ps[k].1.length * ps[k].2 = _
  rw [size_take_succ ps (List.getElem?_eq_getElem h), Nat.zero_add]

/-! ## the law's own draws -/
theorem fresh_back' {H H' : Hp} {p : Addr} (e : Same H H') (h : H' p = none) : H p = none := e.free h
def Spr (H : Hp) (p : Addr) : Prop := ∃ F S C : Int, H p = some (.lst [.int F, .int S, .int C]) ∧ 0 ≤ F ∧ 0 ≤ S ∧ S < 2305843009213693951 ∧ 0 ≤ C
/-- all but the spring at p is as it was -/
structure Go (p : Addr) (H H' : Hp) : Prop where
  keep : ∀ b o, b ≠ p → H b = some o → H' b = some o
  spr : Spr H' p
theorem Go.trans {p : Addr} {H H1 H2 : Hp} (a : Go p H H1) (b : Go p H1 H2) : Go p H H2 := ⟨fun c o hc h => b.keep c o hc (a.keep c o hc h), b.spr⟩
theorem Spr.same {p : Addr} {H H' : Hp} (h : Spr H p) (e : Same H H') : Spr H' p := by
  obtain ⟨F, S, C, h1, h2⟩ := h
  exact ⟨F, S, C, e _ _ h1, h2⟩
theorem Go.of_same {p : Addr} {H H' : Hp} (h : Spr H p) (e : Same H H') : Go p H H' := ⟨fun b o _ k => e b o k, h.same e⟩
theorem Go.refl {p : Addr} {H : Hp} (h : Spr H p) : Go p H H := ⟨fun _ _ _ k => k, h⟩
theorem Go.same {p : Addr} {H H1 H2 : Hp} (a : Go p H H1) (e : Same H1 H2) : Go p H H2 := a.trans (.of_same a.spr e)
theorem Spr.ne {p b : Addr} {H : Hp} (h : Spr H p) (hb : H b = none) : b ≠ p := fun z => by
  obtain ⟨F, S, C, h1, _⟩ := h
  rw [z, h1] at hb
  cases hb
theorem pow60 : (10 : Nat) ^ 60 ≤ 2 ^ 200 := by decide +kernel
theorem fig_step {F r : Int} {n : Nat} (h0 : 0 ≤ F) (h : F.natAbs < 2 ^ n) (r0 : 0 ≤ r) (hr : r < 1000000000000000000000000000000000000000000000000000000000000) : 0 ≤ F * 1000000000000000000000000000000000000000000000000000000000000 + r ∧ (F * 1000000000000000000000000000000000000000000000000000000000000 + r).natAbs < 2 ^ (n + 200) := by
  obtain ⟨f, rfl⟩ := Int.eq_ofNat_of_zero_le h0
  obtain ⟨g, rfl⟩ := Int.eq_ofNat_of_zero_le r0
  have e : ((f : Int) * 1000000000000000000000000000000000000000000000000000000000000 + (g : Int)) = ((f * 1000000000000000000000000000000000000000000000000000000000000 + g : Nat) : Int) := by
    rw [Int.natCast_add, Int.natCast_mul]
    rfl
  rw [e]
  refine ⟨Int.natCast_nonneg _, ?_⟩
  rw [Int.natAbs_natCast] at h ⊢
  have hg : g < 1000000000000000000000000000000000000000000000000000000000000 := by omega
  have h1 : f * 1000000000000000000000000000000000000000000000000000000000000 + g < (f + 1) * 1000000000000000000000000000000000000000000000000000000000000 := by
    rw [Nat.add_mul, Nat.one_mul]
    omega
  have h2 : (f + 1) * 1000000000000000000000000000000000000000000000000000000000000 ≤ 2 ^ n * 2 ^ 200 := Nat.mul_le_mul h pow60
  rw [Nat.pow_add]
  exact Nat.lt_of_lt_of_le h1 h2
theorem cut63 (xs : List V) (h : xs.length ≤ 63) : cutV xs none (some 63) = xs := by
  unfold cutV
  rw [HT.sIx_none, show HT.sIx xs.length xs.length (some 63) = min 63 xs.length from HT.sIx_nat xs.length xs.length 63, List.drop_zero, Nat.sub_zero, Nat.min_eq_right h, List.take_length]
def spSpring (K : PySem.W.Frag) : Sp := fun vs H Q _ => ∃ (a : Addr) (ns : List Int), vs = [.ref a] ∧ SqL K H a (ns.map V.int) ∧ ns.length ≤ 63 ∧ ∀ H' p, Same H H' → H p = none → Spr H' p → Q (.ref p) H'
theorem ok__law_spring (T : Txt K mg) : FnOk P w K mg base CX0 1 T.f__law_spring.f T.f__law_spring.fd ["script"] (spSpring K) := by
  refine T.f__law_spring.F.ok sc__law_spring (fun vs H Q E h => ?_) (fun cdv A outer s H vs Q E hr h => ?_)
  · obtain ⟨v, d, rfl, _⟩ := h
    rfl
  obtain ⟨a, ns, rfl, hs, hlen, q⟩ := h
  refine ⟨_, (pss_cons (ps_set (i := 1) sc__law_spring.nd rfl (.inl rfl) pe_int)
      (pss_cons (ps_set (i := 2) sc__law_spring.nd rfl (.inl rfl) pe_int)
      (pss_cons (ps_for PassesOwn.never rfl (pi_list (pe_slice sl_list (pv 0) po_none (po_some pe_int))) (pg_name (i := 3) sc__law_spring.nd rfl (.inl rfl))
        (pss_cons (ps_if (pt_cmpR op_ge (pe_callB call_abs (by rfl) T.b_abs (by decide +kernel) (pa_cons (pv 3) pa_nil)) (pe_op op_pow pe_int pe_int) (nomark _)) (pss_one (ps_set (i := 1) sc__law_spring.nd rfl (.inl rfl) (pe_op op_add (pe_op op_mulW (pv 1) (pe_op op_pow pe_int pe_int)) (pe_op op_mod (pe_callB call_abs (by rfl) T.b_abs (by decide +kernel) (pa_cons (pv 3) pa_nil)) (pe_op op_pow pe_int pe_int))))) pss_nil)
      (pss_one (ps_set (i := 2) sc__law_spring.nd rfl (.inl rfl) (pe_op op_mod (pe_op op_add (pe_op op_add (pe_op op_mul (pv 2) pe_int) (pe_op op_mod (pv 3) pe_int)) pe_int) pe_int)))))
      (pss_one (ps_ret (pe_lst (pa_cons (pv 1) (pa_cons (pv 2) (pa_cons pe_int pa_nil))))))))), ?_⟩
  walk_at "rd"
  refine fr_list ?_
  walk_at "rd"
  refine ⟨_, rfl, 63, rfl, a, ns.map V.int, rfl, hs, fun b nb => ?_⟩
  rw [cut63 _ (by rw [List.length_map]; exact hlen)]
  refine ⟨b, rfl, ⟨_, SqL.of upd_same⟩, ForGo.list (xs := ns.map V.int)
    (fun i σ H2 => ∃ (F S : Int) (y : Option V), σ = [some (.ref a), some (.int F), some (.int S), y] ∧ H2 = upd H b (.lst (ns.map V.int)) ∧ 0 ≤ F ∧ F.natAbs < 2 ^ (200 * i + 1) ∧ 0 ≤ S ∧ S < 2305843009213693951)
    ⟨0, 88651, none, rfl, rfl, by decide, by decide, by decide, by decide⟩ (fun i σ H2 _ ⟨_, _, _, _, e, _⟩ => by rw [e]; exact SqL.of upd_same) ?_ ?_⟩
  · rintro i x σ H2 hx ⟨F, S, y, rfl, rfl, hF0, hF, hS0, hS⟩
    rw [List.getElem?_map] at hx
    obtain ⟨c, hc, rfl⟩ : ∃ c, ns[i]? = some c ∧ V.int c = x := by
      cases e : ns[i]? with
      | none => rw [e] at hx; cases hx
      | some c => rw [e] at hx; exact ⟨c, rfl, Option.some.inj hx⟩
    have hi : i < ns.length := (List.getElem?_eq_some_iff.mp hc).1
    have hab : 0 ≤ (if c < 0 then -c else c) := by split <;> omega
    have hm1 : 0 ≤ (if c < 0 then -c else c) % 1000000000000000000000000000000000000000000000000000000000000 := Int.emod_nonneg _ (by decide)
    have hm2 : (if c < 0 then -c else c) % 1000000000000000000000000000000000000000000000000000000000000 < 1000000000000000000000000000000000000000000000000000000000000 := Int.emod_lt_of_pos _ (by decide)
    have stp := fig_step hF0 hF hm1 hm2
    walk_at "rd"
    have h60 : (10 : Int) ^ (Int.toNat 60) = 1000000000000000000000000000000000000000000000000000000000000 := by decide +kernel
    have hs1 : 0 ≤ (S * 69069 + c % 2305843009213693921 + 7) % 2305843009213693951 := Int.emod_nonneg _ (by decide)
    have hs2 : (S * 69069 + c % 2305843009213693921 + 7) % 2305843009213693951 < 2305843009213693951 := Int.emod_lt_of_pos _ (by decide)
    have hpw : 2 ^ (200 * i + 1) ≤ 2 ^ (200 * (i + 1) + 1) := Nat.pow_le_pow_right (by decide) (by omega)
    refine ⟨_, rfl, _, rfl, ⟨_, _, rfl, rfl, ⟨by decide, by decide, by decide⟩, _, _, rfl, rfl, _, rfl, ite2 (fun e => ?_) (fun e => ?_)⟩⟩
    · refine ⟨_, rfl, _, _, rfl, rfl, ⟨by decide, by decide, by decide⟩, ?_⟩
      walk_at "rd"
      rw [h60]
      refine ⟨_, _, rfl, rfl, wide_mul hF (b := 200) (by decide +kernel) (by omega) (by decide) (by omega), ?_⟩
      refine ⟨_, rfl, _, rfl, ⟨_, _, rfl, rfl, ⟨by decide, by decide, by decide⟩, ?_⟩⟩
      walk_at "rd"
      rw [h60]
      refine ⟨_, _, rfl, rfl, (show (0 : Int) < 1000000000000000000000000000000000000000000000000000000000000 by decide), _, _, rfl, rfl, ?_⟩
      refine ⟨_, rfl, _, _, rfl, rfl, .inl ⟨by omega, by omega⟩, _, rfl, _, _, rfl, rfl, (show (0 : Int) < 2305843009213693921 by decide), _, _, rfl, rfl, _, _, rfl, rfl, _, _, rfl, rfl, (show (0 : Int) < 2305843009213693951 by decide), ?_⟩
      exact ⟨_, _, _, rfl, rfl, stp.1, Nat.lt_of_lt_of_le stp.2 (Nat.pow_le_pow_right (by decide) (by omega)), hs1, hs2⟩
    · refine ⟨_, rfl, _, _, rfl, rfl, .inl ⟨by omega, by omega⟩, _, rfl, _, _, rfl, rfl, (show (0 : Int) < 2305843009213693921 by decide), _, _, rfl, rfl, _, _, rfl, rfl, _, _, rfl, rfl, (show (0 : Int) < 2305843009213693951 by decide), ?_⟩
      exact ⟨_, _, _, rfl, rfl, hF0, Nat.lt_of_lt_of_le hF hpw, hs1, hs2⟩
  · rintro σ H2 ⟨F, S, y, rfl, rfl, hF0, hF, hS0, hS⟩
    walk_at "rd"
    refine ⟨_, rfl, _, rfl, (by show 3 ≤ sizeLine; decide), fun p np => ?_⟩
    refine q _ p (fun c o e => ?_) ?_ ⟨F, S, 0, upd_same, hF0, hS0, hS, Int.le_refl _⟩
    · rw [upd_ne (ne_of_none ((same_upd nb) c o e) np)]
      exact same_upd nb c o e
    · exact fresh_back' (same_upd nb) np

def spDraw : Sp := fun vs H Q _ => ∃ (p : Addr) (m : Int), vs = [.ref p, .int m] ∧ Spr H p ∧ 0 < m ∧ m.natAbs < 2 ^ 250 ∧ ∀ H' r, Go p H H' → 0 ≤ r → r < m → Q (.int r) H'
theorem go_set {p : Addr} {H : Hp} {F S C : Int} (h1 : 0 ≤ F) (h2 : 0 ≤ S) (h3 : S < 2305843009213693951) (h4 : 0 ≤ C) : Go p H (upd H p (.lst [.int F, .int S, .int C])) :=
  ⟨fun b o hb e => by rw [upd_ne hb]; exact e, F, S, C, upd_same, h1, h2, h3, h4⟩
theorem ok__law_draw (T : Txt K mg) : FnOk P w K mg base CX0 1 T.f__law_draw.f T.f__law_draw.fd ["spring", "many"] spDraw := by
  refine T.f__law_draw.F.ok sc__law_draw (fun vs H Q E h => ?_) (fun cdv A outer s H vs Q E hr h => ?_)
  · obtain ⟨v, d, rfl, _⟩ := h
    rfl
  obtain ⟨p, m, rfl, ⟨F, S, C, hp, hF, hS, hS2, hC⟩, hm, hm2, q⟩ := h
  refine ⟨_, (pss_cons (ps_if (pt_cmpR op_gt (pe_ix ix_seq (pv 0) pe_int (fun _ _ => rfl)) pe_int (nomark _)) (pss_cons (ps_set (i := 2) sc__law_draw.nd rfl (.inl rfl) (pe_op op_mod (pe_ix ix_seq (pv 0) pe_int (fun _ _ => rfl)) (pv 1)))
      (pss_cons (ps_asg (pe_op op_fdivW (pe_ix ix_seq (pv 0) pe_int (fun _ _ => rfl)) (pv 1)) (pg_sub (pv 0) pe_int set_list))
      (pss_one (ps_ret (pv 2))))) pss_nil)
      (pss_cons (ps_asg (pe_op op_add (pe_ix ix_seq (pv 0) pe_int (fun _ _ => rfl)) pe_int) (pg_sub (pv 0) pe_int set_list))
      (pss_cons (ps_set (i := 3) sc__law_draw.nd rfl (.inl rfl) (pe_op op_mod (pe_op op_mul (pe_ix ix_seq (pv 0) pe_int (fun _ _ => rfl)) (pe_ix ix_seq (pv 0) pe_int (fun _ _ => rfl))) pe_int))
      (pss_cons (ps_asg (pe_op op_mod (pe_op op_add (pe_op op_add (pv 3) (pe_op op_mul (pe_op op_mul pe_int (pe_ix ix_seq (pv 0) pe_int (fun _ _ => rfl))) (pe_ix ix_seq (pv 0) pe_int (fun _ _ => rfl)))) pe_int) pe_int) (pg_sub (pv 0) pe_int set_list))
      (pss_one (ps_ret (pe_op op_mod (pe_op op_fdiv (pe_ix ix_seq (pv 0) pe_int (fun _ _ => rfl)) pe_int) (pv 1)))))))), ?_⟩
  walk_at "rd"
  have at0 : ∀ {a b c : V}, atI [a, b, c] 0 = some a := fun {a b c} => rfl
  refine ⟨_, rfl, ix_lst hp (at_of (j := 0) rfl rfl) ⟨_, _, rfl, rfl, _, rfl, ite2 (fun e => ?_) (fun e => ?_)⟩⟩
  · refine ⟨_, rfl, ix_lst hp (at_of (j := 0) rfl rfl) ⟨_, rfl, _, _, rfl, rfl, hm, ?_⟩⟩
    refine ⟨_, rfl, ix_lst hp (at_of (j := 0) rfl rfl) ⟨_, rfl, _, _, rfl, rfl, wide_div hm hm2 (by decide) (by decide), ?_⟩⟩
    refine ⟨_, rfl, p, _, 0, 0, rfl, rfl, hp, rfl, _, rfl, ?_⟩
    exact q _ _ (go_set (Int.ediv_nonneg hF (by omega)) hS hS2 hC) (Int.emod_nonneg _ (by omega)) (Int.emod_lt_of_pos _ hm)
  · have hq1 : 0 ≤ S * S % 2305843009213693951 := Int.emod_nonneg _ (by decide)
    have hz1 : 0 ≤ (S * S % 2305843009213693951 + 7919 * (C + 1) * S + 104729) % 2305843009213693951 := Int.emod_nonneg _ (by decide)
    have hz2 : (S * S % 2305843009213693951 + 7919 * (C + 1) * S + 104729) % 2305843009213693951 < 2305843009213693951 := Int.emod_lt_of_pos _ (by decide)
    have b1 : -(2 ^ 64) < S ∧ S < 2 ^ 64 := by omega
    refine ⟨_, rfl, ix_lst hp (at_of (j := 2) rfl rfl) ⟨_, _, rfl, rfl, ?_⟩⟩
    refine ⟨_, rfl, p, _, 2, 2, rfl, rfl, hp, rfl, ?_⟩
    have hp2 : (upd H p (.lst [.int F, .int S, .int (C + 1)])) p = some (.lst [.int F, .int S, .int (C + 1)]) := upd_same
    refine ⟨_, rfl, ix_lst hp2 (at_of (j := 1) rfl rfl) ⟨_, rfl, ix_lst hp2 (at_of (j := 1) rfl rfl) ⟨_, _, rfl, rfl, .inl b1, _, _, rfl, rfl, (show (0 : Int) < 2305843009213693951 by decide), ?_⟩⟩⟩
    refine ⟨_, rfl, _, rfl, ix_lst hp2 (at_of (j := 2) rfl rfl) ⟨_, _, rfl, rfl, .inl ⟨by decide, by decide⟩, _, rfl, ix_lst hp2 (at_of (j := 1) rfl rfl) ⟨_, _, rfl, rfl, .inr b1, _, _, rfl, rfl, _, _, rfl, rfl, _, _, rfl, rfl, (show (0 : Int) < 2305843009213693951 by decide), ?_⟩⟩⟩
    refine ⟨_, rfl, p, _, 1, 1, rfl, rfl, hp2, rfl, ?_⟩
    have hp3 : (upd (upd H p (.lst [.int F, .int S, .int (C + 1)])) p (.lst [.int F, .int ((S * S % 2305843009213693951 + 7919 * (C + 1) * S + 104729) % 2305843009213693951), .int (C + 1)])) p = some (.lst [.int F, .int ((S * S % 2305843009213693951 + 7919 * (C + 1) * S + 104729) % 2305843009213693951), .int (C + 1)]) := upd_same
    refine ⟨_, rfl, ix_lst hp3 (at_of (j := 1) rfl rfl) ⟨_, _, rfl, rfl, ⟨by decide, by decide⟩, _, rfl, _, _, rfl, rfl, hm, ?_⟩⟩
    refine q _ _ ?_ (Int.emod_nonneg _ (by omega)) (Int.emod_lt_of_pos _ hm)
    exact ⟨fun b o hb e => by rw [upd_ne hb, upd_ne hb]; exact e, F, _, _, upd_same, hF, hz1, hz2, by omega⟩

/-! ## drawn words and texts -/
theorem pow300 {m : Int} {n : Nat} (h0 : 0 ≤ m) (h : m ≤ (n : Int)) (hn : n < 2 ^ 250) : m.natAbs < 2 ^ 250 := by omega
theorem small300 {m : Int} (h0 : 0 ≤ m) (h : m ≤ 1000000) : m.natAbs < 2 ^ 250 := Nat.lt_of_le_of_lt (show m.natAbs ≤ 1000000 by omega) (by decide)
theorem k_ab : ("ab" : Str) = tx [97, 98] := by decide +kernel
theorem k_a : ("a" : Str) = tx [97] := by decide +kernel
theorem k_zy : ("zy" : Str) = tx [122, 121] := by decide +kernel
def Kind (x : List Nat) : Prop := x ≠ [] ∧ x.length ≤ 26 ∧ Plain x
theorem kinds4 {r : Int} (h0 : 0 ≤ r) (h : r < 4) : ∃ x, atI [V.str "ab", V.str "a", V.str "abcdefghijklmnopqrstuvwxyz", V.str "zy"] r = some (.str (tx x)) ∧ Kind x := by
  have : r = 0 ∨ r = 1 ∨ r = 2 ∨ r = 3 := by omega
  rcases this with rfl | rfl | rfl | rfl
  · exact ⟨[97, 98], by rw [k_ab]; rfl, by simp, by simp, by show List.all _ _ = true; decide⟩
  · exact ⟨[97], by rw [k_a]; rfl, by simp, by simp, by show List.all _ _ = true; decide⟩
  · exact ⟨alpha, by rw [← tx_alpha]; rfl, by simp [alpha], by simp [alpha], by show List.all _ _ = true; decide⟩
  · exact ⟨[122, 121], by rw [k_zy]; rfl, by simp, by simp, by show List.all _ _ = true; decide⟩
theorem plain_mem {x : List Nat} (h : Plain x) {c : Nat} (hc : c ∈ x) : alpha.contains c = true := List.all_eq_true.mp h c hc
def spWord : Sp := fun vs H Q _ => ∃ (p : Addr) (m : Int), vs = [.ref p, .int m] ∧ Spr H p ∧ 1 ≤ m ∧ m ≤ 100000 ∧ ∀ H' x, Go p H H' → x ≠ [] → (x.length : Int) ≤ m → Plain x → Q (.str (tx x)) H'
theorem ok__law_word (T : Txt K mg) : FnOk P w K mg base CX0 2 T.f__law_word.f T.f__law_word.fd ["spring", "most"] spWord := by
  refine T.f__law_word.F.ok sc__law_word (fun vs H Q E h => ?_) (fun cdv A outer s H vs Q E hr h => ?_)
  · obtain ⟨v, d, rfl, _⟩ := h
    rfl
  obtain ⟨p, m, rfl, hp, hm, hm2, q⟩ := h
  refine ⟨_, (pss_cons (ps_set (i := 2) sc__law_word.nd rfl (.inr rfl) (pe_ix ix_seq (pe_lst (pa_cons pe_str (pa_cons pe_str (pa_cons pe_str (pa_cons pe_str pa_nil))))) (pe_call (ok__law_draw T) (hr.mono (by decide)) (by rfl) T.f__law_draw.g T.f__law_draw.F.kp T.f__law_draw.b .nil pass0 (pa_cons (pv 0) (pa_cons pe_int pa_nil))) (fun _ _ => rfl)))
      (pss_one (ps_ret (pe_join pe_str (pe_lc (own := [("k", 3)]) rfl sc__law_word.nd (pi_range1 (by rfl) T.b_range (pa_cons (pe_op op_add pe_int (pe_call (ok__law_draw T) (hr.mono (by decide)) (by rfl) T.f__law_draw.g T.f__law_draw.F.kp T.f__law_draw.b .nil pass0 (pa_cons (pv 0) (pa_cons (pv 1) pa_nil)))) pa_nil)) (blkOk_by (own := [("k", 3)]) (N := N__law_word) (sc := defScope s__law_word) (by decide +kernel)) (fun _ _ _ _ _ => (pg_name (i := 3) sc__law_word.nd rfl (.inl rfl))) (fun _ _ _ _ _ => pts_nil) (fun _ _ _ _ _ => (pe_ix (ix_seqK K) (pv 2) (pe_call (ok__law_draw T) (hr.mono (by decide)) (by rfl) T.f__law_draw.g T.f__law_draw.F.kp T.f__law_draw.b .nil pass0 (pa_cons (pv 0) (pa_cons (pe_callB (call_lenK K) (by rfl) T.b_len (by decide +kernel) (pa_cons (pv 2) pa_nil)) pa_nil))) (fun _ _ => rfl)))))))), ?_⟩
  walk_at "rd"
  refine ⟨by show 4 ≤ sizeLine; decide, fun l nl => ?_⟩
  have g0 := Go.of_same hp (same_upd (o := .lst [V.str "ab", V.str "a", V.str "abcdefghijklmnopqrstuvwxyz", V.str "zy"]) nl)
  have hlp : l ≠ p := hp.ne nl
  refine ⟨_, rfl, p, 4, rfl, g0.spr, by decide, by decide, fun H1 r g1 r0 r4 => ?_⟩
  obtain ⟨x, hx, hk⟩ := kinds4 r0 r4
  refine ix_lst (g1.keep _ _ hlp upd_same) hx ⟨⟨_, rfl⟩, lc_rng1 ?_⟩
  walk_at "rd"
  refine ⟨_, rfl, _, rfl, p, m, rfl, g1.spr, by omega, small300 (by omega) (by omega), fun H2 n g2 n0 nm => ?_⟩
  refine ⟨_, _, rfl, rfl, _, rfl, by omega, by omega, fun D nD => ?_⟩
  have hDp : D ≠ p := g2.spr.ne nD
  have hn : (1 + n).toNat ≤ m.toNat := by omega
  refine LcGo.range (fun i H3 => Go p H2 H3 ∧ ∃ ws : List Nat, H3 D = some (.lst (ws.map fun c => V.str (tx [c]))) ∧ ws.length = i ∧ Plain ws)
    ⟨.of_same g2.spr (same_upd nD), [], upd_same, rfl, rfl⟩ ?_ ?_
  · rintro i H3 hi ⟨g3, ws, hD, hws, hpl⟩
    walk_at "rd"
    refine ⟨rfl, _, rfl, _, rfl, _, rfl, len_tx (by have := hk.2.1; omega) ⟨p, x.length, rfl, g3.spr, ?_, small300 (by omega) (by have := hk.2.1; omega), fun H4 r g4 r0 rl => ?_⟩⟩
    · have := List.length_pos_iff.mpr hk.1
      omega
    obtain ⟨k, rfl⟩ := Int.eq_ofNat_of_zero_le r0
    have hkl : k < x.length := by omega
    refine ix_tx (show x.length ≤ 1000000 by have := hk.2.1; omega) (at_ofA (j := k) rfl (List.getElem?_eq_getElem hkl)) ?_
    refine ⟨_, g4.keep _ _ hDp hD, ?_, ⟨fun b o hb e => ?_, ?_⟩, ws ++ [x[k]], ?_, ?_, ?_⟩
    · rw [List.length_map, hws]
      exact Nat.lt_of_lt_of_le (show i < 100000 by omega) (by decide)
    · rw [upd_ne (ne_of_none e nD)]
      exact g4.keep b o hb (g3.keep b o hb e)
    · obtain ⟨F, S, C, h1, h2⟩ := g4.spr
      exact ⟨F, S, C, by rw [upd_ne hDp.symm]; exact h1, h2⟩
    · rw [upd_same, List.map_append]
      rfl
    · rw [List.length_append, hws]
      rfl
    · show (ws ++ [x[k]]).all _ = true
      rw [List.all_append, show ws.all (alpha.contains ·) = true from hpl, List.all_cons, plain_mem hk.2.2 (List.getElem_mem hkl)]
      rfl
  · rintro H3 ⟨g3, ws, hD, hws, hpl⟩
    walk_at "rd"
    have hmap : (ws.map fun c => [c]).map tx = ws.map fun c => tx [c] := by rw [List.map_map]; rfl
    have hfl : (ws.map fun c => [c]).flatten = ws := by
      clear hpl hws hmap hD
      induction ws with
      | nil => rfl
      | cons c ws ih => rw [List.map_cons, List.flatten_cons, ih]; rfl
    refine ⟨tx [], D, (ws.map fun c => [c]).map tx, rfl, rfl, .inl (SqL.of ?_), ?_, ?_⟩
    · rw [hmap, List.map_map]
      exact hD
    · have e1 : (((ws.map fun c => [c]).map tx).map (·.length)) = (ws.map fun c => [c]).map (·.length) := by rw [List.map_map]; exact List.map_congr_left fun x _ => tx_len x
      rw [e1, sum_le_len, hfl, tx_len, List.length_nil, Nat.mul_zero, hws]
      omega
    · rw [join_tx, hfl]
      refine q _ _ (((g0.trans g1).trans g2).trans g3) (fun z => ?_) (by omega) hpl
      rw [z] at hws
      have : (1 + n).toNat = 0 := hws.symm
      omega

/-- a drawn text: a list of tuples, none of them the spring -/
def PcT (p : Addr) (H : Hp) (v : V) (x : List Nat × Nat) : Prop := ∃ b, v = .ref b ∧ b ≠ p ∧ H b = some (.tup [.str (tx x.1), .int (x.2 : Int)])
def TxtL (p : Addr) (H : Hp) (a : Addr) (ps : Pcs) : Prop := a ≠ p ∧ ∃ xs, H a = some (.lst xs) ∧ Paired (PcT p H) xs ps
theorem PcT.go {p : Addr} {H H' : Hp} {v : V} {x : List Nat × Nat} (g : Go p H H') (h : PcT p H v x) : PcT p H' v x := by
  obtain ⟨b, rfl, hb, h⟩ := h
  exact ⟨b, rfl, hb, g.keep _ _ hb h⟩
theorem TxtL.go {p : Addr} {H H' : Hp} {a : Addr} {ps : Pcs} (g : Go p H H') (h : TxtL p H a ps) : TxtL p H' a ps := by
  obtain ⟨h1, xs, h2, h3⟩ := h
  exact ⟨h1, xs, g.keep _ _ h1 h2, prd_same (fun _ _ => PcT.go g) h3⟩
def dOf (ps : Pcs) : Dt := .lst (ps.map fun x => .tup [.str x.1, .int (x.2 : Int)])
theorem pcs_dOf (ps : Pcs) : pcs (dOf ps) = ps := by
  unfold pcs dOf
  show (ps.map fun x => Dt.tup [.str x.1, .int (x.2 : Int)]).map pcOf = ps
  rw [List.map_map]
  conv => rhs; rw [← List.map_id ps]
  refine List.map_congr_left fun x _ => ?_
  show ((x.1, ((x.2 : Int)).toNat) : List Nat × Nat) = id x
  rw [Int.toNat_natCast]
  rfl
theorem isText_dOf {ps : Pcs} (h : Good ps) : isText (dOf ps) = true := by
  have hl : ((dOf ps).items).length = ps.length := by
    show (ps.map fun x => Dt.tup [.str x.1, .int (x.2 : Int)]).length = _
    rw [List.length_map]
  have hall : ((dOf ps).items).all isPiece = true := by
    refine List.all_eq_true.mpr fun d hd => ?_
    obtain ⟨x, hx, rfl⟩ := List.mem_map.mp (show d ∈ ps.map fun x => Dt.tup [.str x.1, .int (x.2 : Int)] from hd)
    obtain ⟨hw, hn⟩ := h.ok x hx
    show (true && (isWord (.str x.1) && isWhole (.int (x.2 : Int)) 1)) = true
    have e1 : isWord (.str x.1) = true := by
      show (x.1.all (alpha.contains ·) && decide (x.1.length ≤ 60) && decide (x.1 ≠ [])) = true
      rw [show x.1.all (alpha.contains ·) = true from hw.1, decide_eq_true hw.2.2, decide_eq_true hw.2.1]
      rfl
    have e2 : isWhole (.int (x.2 : Int)) 1 = true := by
      show decide ((1 : Int) ≤ (x.2 : Int)) = true
      exact decide_eq_true (by omega)
    rw [e1, e2]
    rfl
  unfold isText
  rw [hl, hall, decide_eq_true h.few, sum_size hall]
  have e : (size ((dOf ps).items.map pcOf) : Int) = (size ps : Int) := by
    have := pcs_dOf ps
    unfold pcs at this
    rw [this]
  rw [e, decide_eq_true (by have := h.all; have : ((10 ^ 30 : Nat) : Int) = (10 ^ 30 : Int) := by decide
                            omega)]
  rfl
theorem TxtL.at {K : PySem.W.Frag} {p : Addr} {H : Hp} {a : Addr} {ps : Pcs} (h : TxtL p H a ps) (hg : ∀ x ∈ ps, x.1.length ≤ 60) : At K H (.ref a) (dOf ps) := by
  obtain ⟨_, xs, h2, h3⟩ := h
  unfold dOf At
  refine ⟨a, xs, rfl, SqL.of h2, ?_⟩
  clear h2
  induction h3 with
  | nil => unfold Ats; rfl
  | @cons v x xs ps hv t ih =>
    rw [List.map_cons]
    unfold Ats
    refine ⟨_, _, rfl, ?_, ih fun y hy => hg y (List.mem_cons_of_mem _ hy)⟩
    obtain ⟨b, rfl, _, hb⟩ := hv
    unfold At
    refine ⟨b, _, rfl, SqT.of hb, ?_⟩
    unfold Ats
    refine ⟨_, _, rfl, by unfold At; exact ⟨rfl, Nat.le_trans (hg x (List.mem_cons_self ..)) (by decide)⟩, ?_⟩
    unfold Ats
    refine ⟨_, _, rfl, by unfold At; rfl, ?_⟩
    unfold Ats
    rfl

theorem go_new {p t : Addr} {H H' : Hp} {o : HO} (g : Go p H H') (nt : H' t = none) : Go p H (upd H' t o) := g.same (same_upd nt)
theorem PcT.upd {p : Addr} {H : Hp} {v : V} {x : List Nat × Nat} {o : Addr} {us vs : List V} (ho : H o = some (.lst us)) (h : PcT p H v x) : PcT p (upd H o (.lst vs)) v x := by
  obtain ⟨b, rfl, hb, h⟩ := h
  exact ⟨b, rfl, hb, by rw [upd_ne (ne_of h ho (by intro z; cases z))]; exact h⟩
theorem go_mut {p o : Addr} {H H' : Hp} {x : HO} (g : Go p H H') (no : H o = none) (hop : o ≠ p) : Go p H (upd H' o x) := by
  refine ⟨fun b u hb e => by rw [upd_ne (ne_of_none e no)]; exact g.keep b u hb e, ?_⟩
  obtain ⟨F, S, C, h1, h2⟩ := g.spr
  exact ⟨F, S, C, by rw [upd_ne hop.symm]; exact h1, h2⟩
def OkP (wide times : Int) (x : List Nat × Nat) : Prop := Plain x.1 ∧ x.1 ≠ [] ∧ (x.1.length : Int) ≤ wide ∧ 1 ≤ x.2 ∧ (x.2 : Int) ≤ times
def spTextL : Sp := fun vs H Q _ => ∃ (p : Addr) (most wide times : Int), vs = [.ref p, .int most, .int wide, .int times] ∧ Spr H p ∧ 0 ≤ most ∧ most ≤ 10000 ∧ 1 ≤ wide ∧ wide ≤ 10000 ∧ 1 ≤ times ∧ times.natAbs < 2 ^ 250 ∧
  ∀ H' a ps, Go p H H' → H a = none → TxtL p H' a ps → (ps.length : Int) ≤ most → (∀ x ∈ ps, OkP wide times x) → Q (.ref a) H'
theorem ok__law_text (T : Txt K mg) : FnOk P w K mg base CX0 3 T.f__law_text.f T.f__law_text.fd ["spring", "most", "wide", "times"] spTextL := by
  refine T.f__law_text.F.ok sc__law_text (fun vs H Q E h => ?_) (fun cdv A outer s H vs Q E hr h => ?_)
  · obtain ⟨p, m, wd, tm, rfl, _⟩ := h
    rfl
  obtain ⟨p, most, wide, times, rfl, hp, hm, hm2, hw, hw2, ht, ht2, q⟩ := h
  refine ⟨_, (pss_cons (ps_set (i := 4) sc__law_text.nd rfl (.inl rfl) (pe_lst pa_nil))
      (pss_cons (ps_for PassesOwn.never rfl (pi_range1 (by rfl) T.b_range (pa_cons (pe_call (ok__law_draw T) (hr.mono (by decide)) (by rfl) T.f__law_draw.g T.f__law_draw.F.kp T.f__law_draw.b .nil pass0 (pa_cons (pv 0) (pa_cons (pe_op op_add (pv 1) pe_int) pa_nil))) pa_nil)) (pg_name (i := 5) sc__law_text.nd rfl (.inl rfl))
        (pss_one (ps_expr (pe_bm PySem.F.plainAttrs_list PySem.F.slot_list_append PySem.F.type_list_append mt_append (pv 4) (pa_cons (pe_tup (pa_cons (pe_call (ok__law_word T) (hr.mono (by decide)) (by rfl) T.f__law_word.g T.f__law_word.F.kp T.f__law_word.b .nil pass0 (pa_cons (pv 0) (pa_cons (pv 2) pa_nil))) (pa_cons (pe_op op_add pe_int (pe_call (ok__law_draw T) (hr.mono (by decide)) (by rfl) T.f__law_draw.g T.f__law_draw.F.kp T.f__law_draw.b .nil pass0 (pa_cons (pv 0) (pa_cons (pv 3) pa_nil)))) pa_nil))) pa_nil)))))
      (pss_one (ps_ret (pv 4))))), ?_⟩
  walk_at "rd"
  refine ⟨Nat.zero_le _, fun o no => ?_⟩
  have hop : o ≠ p := hp.ne no
  have g0 := Go.of_same hp (same_upd (o := .lst []) no)
  refine fr_rng1 ?_
  walk_at "rd"
  refine ⟨_, rfl, _, rfl, _, _, rfl, rfl, p, _, rfl, g0.spr, by omega, small300 (by omega) (by omega), fun H1 n g1 n0 nm => ?_⟩
  refine ⟨n, rfl, by omega, by omega, ForGo.range
    (fun i σ H2 => ∃ y, σ = [some (.ref p), some (.int most), some (.int wide), some (.int times), some (.ref o), y] ∧ Go p H H2 ∧ ∃ ps xs, H2 o = some (.lst xs) ∧ Paired (PcT p H2) xs ps ∧ ps.length = i ∧ ∀ x ∈ ps, OkP wide times x)
    ⟨none, rfl, g0.trans g1, [], [], g1.keep _ _ hop upd_same, .nil, rfl, fun x hx => by cases hx⟩ ?_ ?_⟩
  · rintro i σ H2 hi ⟨y, rfl, g2, ps, xs, ho, hps, hl, hok⟩
    walk_at "rd"
    refine ⟨_, rfl, .inl ⟨rfl, _, SqL.of ho⟩, ?_⟩
    refine ⟨_, rfl, _, rfl, p, wide, rfl, g2.spr, hw, by omega, fun H3 x g3 hx hxl hxp => ?_⟩
    refine ⟨_, rfl, _, rfl, p, times, rfl, g3.spr, by omega, ht2, fun H4 r g4 r0 rl => ?_⟩
    obtain ⟨k, rfl⟩ := Int.eq_ofNat_of_zero_le r0
    have g34 := g3.trans g4
    have ho4 := g34.keep _ _ hop ho
    refine ⟨_, _, rfl, rfl, by show 2 ≤ sizeLine; decide, fun t nt => ?_⟩
    have hot : o ≠ t := ne_of_none ho4 nt
    have g5 := Go.of_same g4.spr (same_upd (o := .tup [.str (tx x), .int (1 + (k : Int))]) nt)
    have ho5 := g5.keep _ _ hop ho4
    have hxl2 := prd_len hps
    refine ⟨o, xs, _, rfl, rfl, ho5, ?_, _, rfl, go_mut ((g2.trans g34).trans g5) no hop, ps ++ [(x, 1 + k)], _, upd_same, ?_, ?_, ?_⟩
    · rw [hxl2, hl]
      exact Nat.lt_of_lt_of_le (show i < 100000 by omega) (by decide)
    · refine prd_snoc (prd_same (fun _ _ z => PcT.upd ho5 (PcT.go (g34.trans g5) z)) hps) (PcT.upd ho5 ⟨t, rfl, g4.spr.ne nt, ?_⟩)
      rw [upd_same]
      show some (HO.tup [.str (tx x), .int (1 + (k : Int))]) = some (HO.tup [.str (tx x), .int ((1 + k : Nat) : Int)])
      rw [Int.natCast_add]
      rfl
    · rw [List.length_append, hl]
      rfl
    · intro y hy
      rcases List.mem_append.mp hy with hy | hy
      · exact hok y hy
      · have : y = (x, 1 + k) := by simpa using hy
        subst this
        exact ⟨hxp, hx, hxl, by show 1 ≤ 1 + k; omega, by show ((1 + k : Nat) : Int) ≤ times; omega⟩
  · rintro σ H2 ⟨y, rfl, g2, ps, xs, ho, hps, hl, hok⟩
    walk_at "rd"
    exact ⟨_, rfl, q _ _ _ g2 no ⟨hop, xs, ho, hps⟩ (by omega) hok⟩

theorem spell_alpha {ps : Pcs} (h : Good ps) {c : Nat} (hc : c ∈ spell ps) : c ∈ alpha := by
  unfold spell at hc
  obtain ⟨l, hl, hcl⟩ := List.mem_flatten.mp hc
  obtain ⟨x, hx, rfl⟩ := List.mem_map.mp hl
  have := plain_mem (h.ok x hx).1.1 (rep_mem hcl)
  rw [List.contains_iff_mem] at this
  exact this
theorem ones_flat : ∀ (ws : List Nat), (ws.map fun c => [c]).flatten = ws
  | [] => rfl
  | c :: ws => by rw [List.map_cons, List.flatten_cons, ones_flat ws]; rfl
theorem ones_len (ws : List Nat) : (((ws.map fun c => [c]).map tx).map (·.length)).sum = ws.length := by
  have e1 : (((ws.map fun c => [c]).map tx).map (·.length)) = (ws.map fun c => [c]).map (·.length) := by rw [List.map_map]; exact List.map_congr_left fun x _ => tx_len x
  rw [e1, sum_le_len, ones_flat]
/-! ## the law's own letter -/
def spLawLetter : Sp := fun vs H Q _ => ∃ (p a : Addr) (ps : Pcs) (place c : Nat), vs = [.ref a, .int (place : Int)] ∧ TxtL p H a ps ∧ GoodW ps ∧ (spell ps)[place]? = some c ∧ Q (.str (tx [c])) H

/-! ## lists and tuples, mixed within -/
theorem iteE {c : Bool} {A B : Prop} (h1 : c = true → A) (h2 : c = false → B) : if c = true then A else B := by
  cases c with
  | true => exact iteT (h1 rfl)
  | false => exact iteF (h2 rfl)
theorem norm_row {d : Dt} (h : isRow d = true) : norm d = .lst (d.items.map norm) := by
  cases d with
  | lst ds => simp only [norm, Dt.items, normAll_map]
  | tup ds => simp only [norm, Dt.items, normAll_map]
  | _ => cases h
def spLists (n : Nat) (K : PySem.W.Frag) : Sp := fun vs H Q _ => ∃ v d, vs = [v] ∧ At K H v d ∧ deep d < n ∧ Fits d ∧ bulk d ≤ 300000 ∧
  ∀ H' u fp, Same H H' → AtF H' u (norm d) fp → fp.Nodup → (∀ b ∈ fp, H b = none) → Q u H'
theorem ok__law_lists (T : Txt K mg) : ∀ n, FnOk P w K mg base CX0 n T.f__law_lists.f T.f__law_lists.fd ["thing"] (spLists n K)
  | 0 => ⟨fun vs H Q E h => by obtain ⟨v, d, rfl, _⟩ := h; rfl, fun A outer s H args us vs Q E _ _ _ _ h => by obtain ⟨v, d, _, _, h, _⟩ := h; exact absurd h (Nat.not_lt_zero _)⟩
  | n + 1 => by
    have ih := ok__law_lists T n
    refine T.f__law_lists.F.ok sc__law_lists (fun vs H Q E h => ?_) (fun cdv A outer s H vs Q E hr h => ?_)
    · obtain ⟨v, d, rfl, _⟩ := h
      rfl
    obtain ⟨v, d, rfl, hv, hdp, hft, hbk, q⟩ := h
    refine ⟨_, (pss_one (ps_ret (pe_ifExp (pt_val (pe_callB call_isiT (by rfl) T.b_isinstance (by decide +kernel) (pa_cons (pv 0) (pa_cons (pe_tup (pa_cons (pe_bltn (v := .ty "list") (by rfl) T.b_list (by decide +kernel) rfl) (pa_cons (pe_bltn (v := .ty "tuple") (by rfl) T.b_tuple (by decide +kernel) rfl) pa_nil))) pa_nil)))) (pe_lc (own := [("inner", 1)]) rfl sc__law_lists.nd (pi_seq (pv 0)) (blkOk_by (own := [("inner", 1)]) (N := N__law_lists) (sc := defScope s__law_lists) (by decide +kernel)) (fun _ _ _ _ _ => (pg_name (i := 1) sc__law_lists.nd rfl (.inl rfl))) (fun _ _ _ _ _ => pts_nil) (fun _ _ _ _ _ => (pe_call (ih) (hr.mono (by first | decide | omega)) (by rfl) T.f__law_lists.g T.f__law_lists.F.kp T.f__law_lists.b .nil pass0 (pa_cons (pv 1) pa_nil)))) (pv 0)))), ?_⟩
    walk_at "rd"
    refine ⟨v, rfl, (by show 2 ≤ sizeLine; decide), fun t nt => ?_⟩
    have s0 : Same H (upd H t (.tup [.ty "list", .ty "tuple"])) := same_upd nt
    have hv0 := At.same s0 _ _ hv
    refine isi_row hv0 upd_same ⟨_, rfl, iteE (fun e => ?_) (fun e => ?_)⟩
    · obtain ⟨a, xs, rfl, hrow, hit⟩ := at_row hv0 e
      have hxl := hit.len
      have hlb := len_bulk d
      refine lc_rowP (a := a) (xs := xs) rfl hrow (Same.refl _) (fun _ => rfl) (fun _ _ _ h => h)
        (fun D i ys H' => Same H H' ∧ H' D = some (.lst ys) ∧ (Same (upd H t (.tup [.ty "list", .ty "tuple"])) H') ∧ ys.length = i ∧ ∃ fs, AtFs H' ys ((d.items.map norm).take i) fs ∧ fs.Nodup ∧ D ∉ fs ∧ ∀ b ∈ fs, H b = none)
        (fun D nD => ⟨s0.trans (same_upd nD), upd_same, same_upd nD, rfl, [], by rw [List.take_zero]; unfold AtFs; exact ⟨rfl, rfl⟩, List.nodup_nil, (fun z => List.not_mem_nil z), fun b hb => (List.not_mem_nil hb).elim⟩)
        (fun D i ys H' p => p.2.2.1) ?_ ?_
      · rintro D i x ys H' nD hx ⟨s1, hD, s2, hyl, fs, hfs, hnd, hDf, hfr⟩
        obtain ⟨c, hc, ac⟩ := hit.at hx
        have hcm := List.mem_of_getElem? hc
        have hi := (List.getElem?_eq_some_iff.mp hc).1
        refine ⟨_, rfl, x, c, rfl, At.same s2 _ _ ac, by have := mem_deep hcm; omega, mem_fits hft hcm, by have := mem_bulk hcm; omega, fun H3 u fp s3 hu hun hufr => ?_⟩
        have hDfp : D ∉ fp := fun z => by
          have := hufr D z
          rw [hD] at this
          cases this
        have hnDp : H D = none := s0.free nD
        refine ⟨ys, s3 _ _ hD, Nat.lt_of_le_of_lt (show ys.length ≤ 300000 by omega) (by decide), ys ++ [u], ?_, upd_same, ?_, by rw [List.length_append, hyl]; rfl, fs ++ fp, ?_, ?_, ?_, ?_⟩
        · exact same_mut (s1.trans s3) hnDp
        · exact same_mut (s2.trans s3) nD
        · rw [take_norm hc]
          refine AtFs.snoc (AtF.same _ _ _ hu (fun b o hb e => ?_)) (AtFs.same _ _ _ hfs (fun b o hb e => ?_))
          · rw [upd_ne (fun z => hDfp (by rw [← z]; exact hb))]
            exact e
          · rw [upd_ne (fun z => hDf (by rw [← z]; exact hb))]
            exact s3 _ _ e
        · refine List.nodup_append.mpr ⟨hnd, hun, fun b hb c2 hc2 z => ?_⟩
          subst z
          obtain ⟨o, ho⟩ := AtFs.trk _ _ _ hfs b hb
          rw [hufr b hc2] at ho
          cases ho
        · intro z
          rcases List.mem_append.mp z with z | z
          · exact hDf z
          · exact hDfp z
        · intro b hb
          rcases List.mem_append.mp hb with hb | hb
          · exact hfr b hb
          · exact s1.free (hufr b hb)
      · rintro D ys H' nD ⟨s1, hD, s2, hyl, fs, hfs, hnd, hDf, hfr⟩
        rw [List.take_of_length_le (by rw [List.length_map, hxl]; exact Nat.le_refl _)] at hfs
        refine q H' (.ref D) (D :: fs) s1 ?_ (List.nodup_cons.mpr ⟨hDf, hnd⟩) (fun b hb => ?_)
        · rw [norm_row e]
          unfold AtF
          exact ⟨D, ys, fs, rfl, hD, hfs, rfl⟩
        · rcases List.mem_cons.mp hb with rfl | hb
          · exact s0.free nD
          · exact hfr b hb
    · exact ⟨_, rfl, q _ v [] s0 (leaf_AtF hv0 hft e) List.nodup_nil (fun b hb => (List.not_mem_nil hb).elim)⟩
def spHanded (K : PySem.W.Frag) : Sp := fun vs H Q _ => ∃ p v d, vs = [.ref p, v] ∧ Spr H p ∧ At K (hid p H) v d ∧ isRow d = true ∧ deep d ≤ 2 ∧ Fits d ∧ bulk d ≤ 300000 ∧
  ∀ H' u e, Go p H H' → At K (hid p H') u e → norm e = norm d → Q u H'
theorem Go.hid {p : Addr} {H H' : Hp} (g : Go p H H') : Same (hid p H) (hid p H') := fun b o h => by
  obtain ⟨h1, h2⟩ := hid_at h
  rw [hid_ne h1]
  exact g.keep b o h1 h2
theorem Spr.some {p : Addr} {H : Hp} (h : Spr H p) : H p ≠ none := by
  obtain ⟨F, S, C, h, _⟩ := h
  rw [h]
  exact nofun
theorem hid_fresh {p : Addr} {H H' : Hp} (h : Spr H p) {v : V} {d : Dt} {fp : List Addr} (hv : AtF H' v d fp) (hf : ∀ b ∈ fp, H b = none) : AtF (hid p H') v d fp :=
  AtF.same _ _ _ hv fun b o hb e => by
    rw [hid_ne (fun z => h.some (by rw [← z]; exact hf b hb))]
    exact e
theorem ok__law_handed (T : Txt K mg) : FnOk P w K mg base CX0 5 T.f__law_handed.f T.f__law_handed.fd ["spring", "thing"] (spHanded K) := by
  refine T.f__law_handed.F.ok sc__law_handed (fun vs H Q E h => ?_) (fun cdv A outer s H vs Q E hr h => ?_)
  · obtain ⟨p, v, d, rfl, _⟩ := h
    rfl
  obtain ⟨p, v, d, rfl, hp, hv, hrd, hdp, hft, hbk, q⟩ := h
  refine ⟨_, (pss_cons (ps_set (i := 2) sc__law_handed.nd rfl (.inl rfl) (pe_call (ok__law_draw T) (hr.mono (by decide)) (by rfl) T.f__law_draw.g T.f__law_draw.F.kp T.f__law_draw.b .nil pass0 (pa_cons (pv 0) (pa_cons pe_int pa_nil))))
      (pss_cons (ps_if (pt_cmpR op_eq (pv 2) pe_int (nomark _)) (pss_one (ps_ret (pe_call (ok__law_lists T 3) (hr.mono (by first | decide | omega)) (by rfl) T.f__law_lists.g T.f__law_lists.F.kp T.f__law_lists.b .nil pass0 (pa_cons (pv 1) pa_nil)))) pss_nil)
      (pss_cons (ps_if (pt_cmpR op_eq (pv 2) pe_int (nomark _)) (pss_one (ps_ret (pe_lc (own := [("one", 3)]) rfl sc__law_handed.nd (pi_seq (pv 1)) (blkOk_by (own := [("one", 3)]) (N := N__law_handed) (sc := defScope s__law_handed) (by decide +kernel)) (fun _ _ _ _ _ => (pg_name (i := 3) sc__law_handed.nd rfl (.inl rfl))) (fun _ _ _ _ _ => pts_nil) (fun _ _ _ _ _ => (pe_ifExp (pt_cmpR op_eq (pe_call (ok__law_draw T) (hr.mono (by decide)) (by rfl) T.f__law_draw.g T.f__law_draw.F.kp T.f__law_draw.b .nil pass0 (pa_cons (pv 0) (pa_cons pe_int pa_nil))) pe_int (nomark _)) (pe_call (ok__law_lists T 2) (hr.mono (by first | decide | omega)) (by rfl) T.f__law_lists.g T.f__law_lists.F.kp T.f__law_lists.b .nil pass0 (pa_cons (pv 3) pa_nil)) (pv 3)))))) pss_nil)
      (pss_cons (ps_if (pt_cmpR op_eq (pv 2) pe_int (nomark _)) (pss_one (ps_ret (pe_callTy call_tuple_of (by rfl) T.b_tuple (by decide +kernel) (pa_cons (pe_lc (own := [("one", 3)]) rfl sc__law_handed.nd (pi_seq (pv 1)) (blkOk_by (own := [("one", 3)]) (N := N__law_handed) (sc := defScope s__law_handed) (by decide +kernel)) (fun _ _ _ _ _ => (pg_name (i := 3) sc__law_handed.nd rfl (.inl rfl))) (fun _ _ _ _ _ => pts_nil) (fun _ _ _ _ _ => (pe_call (ok__law_lists T 2) (hr.mono (by first | decide | omega)) (by rfl) T.f__law_lists.g T.f__law_lists.F.kp T.f__law_lists.b .nil pass0 (pa_cons (pv 3) pa_nil)))) pa_nil)))) pss_nil)
      (pss_one (ps_ret (pe_ifExp (pt_cmpR op_eq (pv 2) pe_int (nomark _)) (pe_callTy call_tuple_of (by rfl) T.b_tuple (by decide +kernel) (pa_cons (pv 1) pa_nil)) (pv 1)))))))), ?_⟩
  walk_at "rd"
  refine ⟨_, rfl, p, 5, rfl, hp, by decide, by decide, fun H1 r g1 r0 r5 => ?_⟩
  have hv1 := At.same g1.hid _ _ hv
  have hv1' := At.same (hid_same p H1) _ _ hv1
  obtain ⟨a, xs, rfl, hrow, hit⟩ := at_row hv1 hrd
  have hxl := hit.len
  have hlb := len_bulk d
  refine ⟨_, rfl, rfl, _, rfl, ite2 (fun e1 => ?_) (fun e1 => ?_)⟩
  · refine ⟨_, rfl, .ref a, d, rfl, hv1', by omega, hft, hbk, fun H2 u fp s2 hu hnd hf => ?_⟩
    exact q H2 u (norm d) (g1.same s2) (AtF.at _ _ _ (hid_fresh g1.spr hu hf)) (norm_norm d)
  refine ⟨_, rfl, rfl, _, rfl, ite2 (fun e2 => ?_) (fun e2 => ?_)⟩
  · refine lc_rowP (a := a) (xs := xs) rfl hrow (hid_same p H1) (fun _ => rfl) (fun _ _ _ h => h)
      (fun D i ys H' => H1 D = none ∧ Go p H1 H' ∧ H' D = some (.lst ys) ∧ ys.length = i ∧ ∃ es, Ats K (hid D (hid p H')) ys es ∧ es.map norm = (d.items.map norm).take i)
      (fun D nD => ⟨nD, .of_same g1.spr (same_upd nD), upd_same, rfl, [], by unfold Ats; rfl, by rw [List.take_zero]; rfl⟩)
      (fun D i ys H' p => p.2.1.hid.trans (hid_same _ _)) ?_ ?_
    · rintro D i x ys H' nD hx ⟨_, g2, hD, hyl, es, hes, hnm⟩
      obtain ⟨c, hc, ac⟩ := hit.at hx
      have hcm := List.mem_of_getElem? hc
      have hi := (List.getElem?_eq_some_iff.mp hx).1
      have hDp : D ≠ p := g1.spr.ne nD
      have hDd : ∀ {H4 : Hp}, Go p H' H4 → Same (hid p H1) (hid D (hid p H4)) := fun {H4} g b o h => by
        obtain ⟨h1, h2⟩ := hid_at h
        rw [hid_ne (ne_of_none h2 nD)]
        exact (g2.trans g).hid _ _ h
      refine ⟨_, rfl, p, 2, rfl, g2.spr, by decide, by decide, fun H3 r2 g3 r20 r21 => ⟨rfl, _, rfl, ite2 (fun e3 => ?_) (fun e3 => ?_)⟩⟩
      · refine ⟨_, rfl, x, c, rfl, At.same ((hDd g3).trans ((hid_same D _).trans (hid_same p _))) _ _ ac, by have := mem_deep hcm; omega, mem_fits hft hcm, by have := mem_bulk hcm; omega, fun H4 u fp s4 hu hun hufr => ?_⟩
        have g4 := g3.same s4
        have hD4 := g4.keep _ _ hDp hD
        have hDfp : D ∉ fp := fun z => by
          have := hufr D z
          rw [g3.keep _ _ hDp hD] at this
          cases this
        have hu4 : At K (hid D (hid p H4)) u (norm c) := AtF.at _ _ _ (AtF.same _ _ _ (hid_fresh g3.spr hu hufr) (fun b o hb e => by
          rw [hid_ne (fun z => hDfp (by rw [← z]; exact hb))]
          exact e))
        refine ⟨ys, hD4, Nat.lt_of_le_of_lt (show ys.length ≤ 300000 by omega) (by decide), ys ++ [u], nD, go_mut (g2.trans g4) nD hDp, upd_same, by rw [List.length_append, hyl]; rfl, es ++ [norm c], ?_, ?_⟩
        · rw [hid_upd hDp, hid_hid]
          exact Ats.snoc hu4 (Ats.same (hid_mono g4.hid) _ _ hes)
        · rw [take_norm hc, List.map_append, hnm]
          show _ ++ [norm (norm c)] = _
          rw [norm_norm]
      · have hD3 := g3.keep _ _ hDp hD
        refine ⟨_, rfl, ys, hD3, Nat.lt_of_le_of_lt (show ys.length ≤ 300000 by omega) (by decide), ys ++ [x], nD, go_mut (g2.trans g3) nD hDp, upd_same, by rw [List.length_append, hyl]; rfl, es ++ [c], ?_, ?_⟩
        · rw [hid_upd hDp, hid_hid]
          exact Ats.snoc (At.same (hDd g3) _ _ ac) (Ats.same (hid_mono g3.hid) _ _ hes)
        · rw [take_norm hc, List.map_append, hnm]
          rfl
    · rintro D ys H' nD ⟨_, g2, hD, hyl, es, hes, hnm⟩
      have hDp : D ≠ p := g1.spr.ne nD
      rw [List.take_of_length_le (by rw [List.length_map, hxl]; exact Nat.le_refl _)] at hnm
      refine q H' (.ref D) (.lst es) (g1.trans g2) ?_ ?_
      · unfold At
        exact ⟨D, ys, rfl, SqL.of (by rw [hid_ne hDp]; exact hD), Ats.same (hid_same D _) _ _ hes⟩
      · rw [norm_row hrd]
        simp only [norm, normAll_map, hnm]
  refine ⟨_, rfl, rfl, _, rfl, ite2 (fun e3 => ?_) (fun e3 => ?_)⟩
  · refine lc_rowP (a := a) (xs := xs) rfl hrow (hid_same p H1) (fun _ => rfl) (fun _ _ _ h => h)
      (fun D i ys H' => H1 D = none ∧ Same H1 H' ∧ H' D = some (.lst ys) ∧ ys.length = i ∧ ∃ es, Ats K (hid D (hid p H')) ys es ∧ es.map norm = (d.items.map norm).take i)
      (fun D nD => ⟨nD, same_upd nD, upd_same, rfl, [], by unfold Ats; rfl, by rw [List.take_zero]; rfl⟩)
      (fun D i ys H' p => (hid_mono p.2.1).trans (hid_same _ _)) ?_ ?_
    · rintro D i x ys H' nD hx ⟨_, s2, hD, hyl, es, hes, hnm⟩
      obtain ⟨c, hc, ac⟩ := hit.at hx
      have hcm := List.mem_of_getElem? hc
      have hi := (List.getElem?_eq_some_iff.mp hx).1
      have hDp : D ≠ p := g1.spr.ne nD
      refine ⟨_, rfl, x, c, rfl, At.same ((hid_same p _).trans s2) _ _ ac, by have := mem_deep hcm; omega, mem_fits hft hcm, by have := mem_bulk hcm; omega, fun H4 u fp s4 hu hun hufr => ?_⟩
      have hDfp : D ∉ fp := fun z => by
        have := hufr D z
        rw [hD] at this
        cases this
      have hu4 : At K (hid D (hid p H4)) u (norm c) := AtF.at _ _ _ (AtF.same _ _ _ (hid_fresh (g1.spr.same s2) hu hufr) (fun b o hb e => by
        rw [hid_ne (fun z => hDfp (by rw [← z]; exact hb))]
        exact e))
      refine ⟨ys, s4 _ _ hD, Nat.lt_of_le_of_lt (show ys.length ≤ 300000 by omega) (by decide), ys ++ [u], nD, same_mut (s2.trans s4) nD, upd_same, by rw [List.length_append, hyl]; rfl, es ++ [norm c], ?_, ?_⟩
      · rw [hid_upd hDp, hid_hid]
        exact Ats.snoc hu4 (Ats.same (hid_mono (hid_mono s4)) _ _ hes)
      · rw [take_norm hc, List.map_append, hnm]
        show _ ++ [norm (norm c)] = _
        rw [norm_norm]
    · rintro D ys H' nD ⟨_, s2, hD, hyl, es, hes, hnm⟩
      have hDp : D ≠ p := g1.spr.ne nD
      rw [List.take_of_length_le (by rw [List.length_map, hxl]; exact Nat.le_refl _)] at hnm
      refine ⟨D, ys, rfl, .inl ⟨SqL.of hD, fun l nl => ?_⟩⟩
      have hlp : l ≠ p := (g1.spr.same s2).ne nl
      refine q _ (.ref l) (.tup es) ((g1.same s2).same (same_upd nl)) ?_ ?_
      · unfold At
        refine ⟨l, ys, rfl, SqT.of (by rw [hid_ne hlp]; exact upd_same), Ats.same ?_ _ _ hes⟩
        exact (hid_same D _).trans (hid_mono (same_upd nl))
      · rw [norm_row hrd]
        simp only [norm, normAll_map, hnm]
  refine ⟨_, rfl, rfl, _, rfl, ite2 (fun e4 => ?_) (fun e4 => ?_)⟩
  · refine ⟨_, rfl, a, xs, rfl, ?_⟩
    rcases hrow with hs | hs
    · refine .inl ⟨(hid_same p _).seq hs, fun l nl => ?_⟩
      have hlp : l ≠ p := g1.spr.ne nl
      refine q _ (.ref l) (.tup d.items) (g1.same (same_upd nl)) ?_ ?_
      · unfold At
        exact ⟨l, xs, rfl, SqT.of (by rw [hid_ne hlp]; exact upd_same), Ats.same (hid_mono (same_upd nl)) _ _ hit⟩
      · rw [norm_row hrd]
        simp only [norm, normAll_map]
    · exact .inr ⟨sameT (hid_same p _) hs, q H1 _ d g1 hv1 rfl⟩
  · exact ⟨_, rfl, q H1 _ d g1 hv1 rfl⟩

/-! ## alike all through -/
def spSame (n : Nat) (K : PySem.W.Frag) : Sp := fun vs H Q _ => ∃ v u d, vs = [v, u] ∧ At K H v d ∧ At K H u d ∧ deep d < n ∧ Fits d ∧ bulk d ≤ 300000 ∧ ∀ H', Same H H' → Q (.bl true) H'
theorem ok__law_same (T : Txt K mg) : ∀ n, FnOk P w K mg base CX0 n T.f__law_same.f T.f__law_same.fd ["found", "due"] (spSame n K)
  | 0 => ⟨fun vs H Q E h => by obtain ⟨v, u, d, rfl, _⟩ := h; rfl, fun A outer s H args us vs Q E _ _ _ _ h => by obtain ⟨v, u, d, _, _, _, h, _⟩ := h; exact absurd h (Nat.not_lt_zero _)⟩
  | n + 1 => by
    have ih := ok__law_same T n
    refine T.f__law_same.F.ok sc__law_same (fun vs H Q E h => ?_) (fun cdv A outer s H vs Q E hr h => ?_)
    · obtain ⟨v, u, d, rfl, _⟩ := h
      rfl
    obtain ⟨v, u, d, rfl, hv, hu, hdp, hft, hbk, q⟩ := h
    refine ⟨_, (pss_cons (ps_if (pt_val (pe_callB call_isiT (by rfl) T.b_isinstance (by decide +kernel) (pa_cons (pv 1) (pa_cons (pe_tup (pa_cons (pe_bltn (v := .ty "list") (by rfl) T.b_list (by decide +kernel) rfl) (pa_cons (pe_bltn (v := .ty "tuple") (by rfl) T.b_tuple (by decide +kernel) rfl) pa_nil))) pa_nil)))) (pss_cons (ps_if (PW.pt (pw_or (pt_cmpR op_ne (pe_callB call_isi (by rfl) T.b_isinstance (by decide +kernel) (pa_cons (pv 0) (pa_cons (pe_bltn (v := .ty "list") (by rfl) T.b_list (by decide +kernel) rfl) pa_nil))) (pe_callB call_isi (by rfl) T.b_isinstance (by decide +kernel) (pa_cons (pv 1) (pa_cons (pe_bltn (v := .ty "list") (by rfl) T.b_list (by decide +kernel) rfl) pa_nil))) (nomark _)) (pw_or1 (pt_cmpR op_ne (pe_callB call_isi (by rfl) T.b_isinstance (by decide +kernel) (pa_cons (pv 0) (pa_cons (pe_bltn (v := .ty "tuple") (by rfl) T.b_tuple (by decide +kernel) rfl) pa_nil))) (pe_callB call_isi (by rfl) T.b_isinstance (by decide +kernel) (pa_cons (pv 1) (pa_cons (pe_bltn (v := .ty "tuple") (by rfl) T.b_tuple (by decide +kernel) rfl) pa_nil))) (nomark _))))) (pss_one (ps_ret pe_bl)) pss_nil)
      (pss_one (ps_ret (pe_and (pe_cmpR op_eq (pe_callB (call_lenK K) (by rfl) T.b_len (by decide +kernel) (pa_cons (pv 0) pa_nil)) (pe_callB (call_lenK K) (by rfl) T.b_len (by decide +kernel) (pa_cons (pv 1) pa_nil)) (nomark _)) (pe_one (pe_callB (cr_all rfl) (by rfl) T.b_all (by decide +kernel) (pa_cons (pe_lc (own := [("k", 2)]) rfl sc__law_same.nd (pi_range1 (by rfl) T.b_range (pa_cons (pe_callB (call_lenK K) (by rfl) T.b_len (by decide +kernel) (pa_cons (pv 1) pa_nil)) pa_nil)) (blkOk_by (own := [("k", 2)]) (N := N__law_same) (sc := defScope s__law_same) (by decide +kernel)) (fun _ _ _ _ _ => (pg_name (i := 2) sc__law_same.nd rfl (.inl rfl))) (fun _ _ _ _ _ => pts_nil) (fun _ _ _ _ _ => (pe_call (ih) (hr.mono (by first | decide | omega)) (by rfl) T.f__law_same.g T.f__law_same.F.kp T.f__law_same.b .nil pass0 (pa_cons (pe_ix (ix_seqK K) (pv 0) (pv 2) (fun _ _ => rfl)) (pa_cons (pe_ix (ix_seqK K) (pv 1) (pv 2) (fun _ _ => rfl)) pa_nil))))) pa_nil))))))) pss_nil)
      (pss_cons (ps_if (PW.pt (pw_or (pt_cmpR op_isN (pv 1) pe_non (nomark _)) (pw_or1 (pt_cmpR op_isN (pv 0) pe_non (nomark _))))) (pss_one (ps_ret (pe_and (pe_cmpR op_isN (pv 1) pe_non (nomark _)) (pe_one (pe_cmpR op_isN (pv 0) pe_non (nomark _)))))) pss_nil)
      (pss_cons (ps_if (PW.pt (pw_or (pt_cmpR op_ne (pe_callB call_isi (by rfl) T.b_isinstance (by decide +kernel) (pa_cons (pv 1) (pa_cons (pe_bltn (v := .ty "bool") (by rfl) T.b_bool (by decide +kernel) rfl) pa_nil))) (pe_callB call_isi (by rfl) T.b_isinstance (by decide +kernel) (pa_cons (pv 0) (pa_cons (pe_bltn (v := .ty "bool") (by rfl) T.b_bool (by decide +kernel) rfl) pa_nil))) (nomark _)) (pw_or1 (pt_cmpR op_ne (pe_callB call_isi (by rfl) T.b_isinstance (by decide +kernel) (pa_cons (pv 1) (pa_cons (pe_bltn (v := .ty "str") (by rfl) T.b_str (by decide +kernel) rfl) pa_nil))) (pe_callB call_isi (by rfl) T.b_isinstance (by decide +kernel) (pa_cons (pv 0) (pa_cons (pe_bltn (v := .ty "str") (by rfl) T.b_str (by decide +kernel) rfl) pa_nil))) (nomark _))))) (pss_one (ps_ret pe_bl)) pss_nil)
      (pss_one (ps_ret (pe_cmpR op_eq (pv 0) (pv 1) (nomark _))))))), ?_⟩
    walk_at "rd"
    refine ⟨u, rfl, (by show 2 ≤ sizeLine; decide), fun t nt => ?_⟩
    have s0 : Same H (upd H t (.tup [.ty "list", .ty "tuple"])) := same_upd nt
    have hv0 := At.same s0 _ _ hv
    have hu0 := At.same s0 _ _ hu
    refine isi_row hu0 upd_same ⟨_, rfl, iteE (fun e => ?_) (fun e => ?_)⟩
    · obtain ⟨a, xs, rfl, hrow, hit⟩ := at_row hv0 e
      obtain ⟨b, ys, rfl, hrow2, hit2⟩ := at_row hu0 e
      have hxl := hit.len
      have hyl := hit2.len
      have hlb := len_bulk d
      have neq : ∀ x : V, (!decide (x = x)) = false := fun x => by rw [decide_eq_true rfl]; rfl
      refine ⟨_, rfl, isi_ty hv0 (by decide) ⟨_, rfl, isi_ty hu0 (by decide) ⟨rfl, _, rfl, ?_⟩⟩⟩
      rw [neq]
      refine iteF ⟨_, rfl, isi_ty hv0 (by decide) ⟨_, rfl, isi_ty hu0 (by decide) ⟨rfl, _, rfl, ?_⟩⟩⟩
      rw [neq]
      refine iteF ⟨_, rfl, len_row hrow ⟨_, rfl, len_row hrow2 ⟨rfl, _, rfl, ?_⟩⟩⟩
      rw [hxl, hyl, decide_eq_true rfl]
      refine iteT (lc_rng1 ?_)
      walk_at "rd"
      refine ⟨_, rfl, len_row hrow2 ⟨_, rfl, by omega, by omega, fun D nD => ?_⟩⟩
      have hDr : ((ys.length : Nat) : Int).toNat = d.items.length := by rw [hyl]; rfl
      rw [hDr]
      refine LcGo.range (fun i H' => Same (upd H t (.tup [.ty "list", .ty "tuple"])) H' ∧ H' D = some (.lst (List.replicate i (.bl true)))) ⟨same_upd nD, upd_same⟩ ?_ ?_
      · rintro i H' hi ⟨s1, hD⟩
        have hc : d.items[i]? = some d.items[i] := List.getElem?_eq_getElem hi
        obtain ⟨x, hx, ax⟩ := hit.get hc
        obtain ⟨y, hy, ay⟩ := hit2.get hc
        have hcm := List.mem_of_getElem? hc
        walk_at "rd"
        refine ⟨rfl, _, rfl, _, rfl, ix_row (hrow.same s1) (at_ofA (j := i) (by omega) hx) ⟨_, rfl, _, rfl, ix_row (hrow2.same s1) (at_ofA (j := i) (by omega) hy) ?_⟩⟩
        refine ⟨x, y, _, rfl, At.same s1 _ _ ax, At.same s1 _ _ ay, by have := mem_deep hcm; omega, mem_fits hft hcm, by have := mem_bulk hcm; omega, fun H3 s3 => ?_⟩
        refine ⟨_, s3 _ _ hD, ?_, same_mut (s1.trans s3) nD, ?_⟩
        · rw [List.length_replicate]
          exact Nat.lt_of_le_of_lt (show i ≤ 300000 by omega) (by decide)
        · rw [upd_same, List.replicate_succ']
      · rintro H' ⟨s1, hD⟩
        refine ⟨D, List.replicate d.items.length true, rfl, SqL.of (by rw [hD, List.map_replicate]), ?_⟩
        have ea : (List.replicate d.items.length true).all id = true := by
          rw [List.all_eq_true]
          intro x hx
          rw [List.eq_of_mem_replicate hx]
          rfl
        rw [ea]
        exact q _ (s0.trans s1)
    · have neq : ∀ x : V, (!decide (x = x)) = false := fun x => by rw [decide_eq_true rfl]; rfl
      have deq : ∀ x : V, decide (x = x) = true := fun x => decide_eq_true rfl
      refine ⟨_, rfl, rfl, _, rfl, ?_⟩
      by_cases hn : d = .non
      · subst hn
        unfold At at hv0 hu0
        subst hv0 hu0
        rw [deq]
        refine iteT (iteT ⟨_, rfl, rfl, _, rfl, ?_⟩)
        rw [deq]
        refine iteT ⟨_, rfl, rfl, ?_⟩
        rw [deq]
        exact q _ s0
      · have hvu : v = u ∧ u ≠ .non ∧ scal v u = true := by
          cases d with
          | lst ds => cases e
          | tup ds => cases e
          | non => exact absurd rfl hn
          | bl b => unfold At at hv0 hu0; subst hv0 hu0; exact ⟨rfl, nofun, rfl⟩
          | int i => unfold At at hv0 hu0; subst hv0 hu0; exact ⟨rfl, nofun, rfl⟩
          | str w => unfold At at hv0 hu0; obtain ⟨rfl, _⟩ := hv0; obtain ⟨rfl, _⟩ := hu0; exact ⟨rfl, nofun, rfl⟩
          | dic => unfold Fits at hft; exact hft.elim
        obtain ⟨rfl, hnn, hsc⟩ := hvu
        rw [decide_eq_false hnn]
        refine iteF ⟨_, rfl, rfl, _, rfl, ?_⟩
        rw [decide_eq_false hnn]
        refine iteF ⟨_, rfl, isi_ty hu0 (by decide) ⟨_, rfl, isi_ty hv0 (by decide) ⟨rfl, _, rfl, ?_⟩⟩⟩
        rw [neq]
        refine iteF ⟨_, rfl, isi_ty hu0 (by decide) ⟨_, rfl, isi_ty hv0 (by decide) ⟨rfl, _, rfl, ?_⟩⟩⟩
        rw [neq]
        refine iteF ⟨_, rfl, _, rfl, hsc, ?_⟩
        rw [deq]
        exact q _ s0

/-! ## written out letters -/
def spLaid (K : PySem.W.Frag) : Sp := fun vs H Q _ => ∃ v ps, vs = [v] ∧ TextAt K H v ps ∧ ps.length ≤ 1000 ∧ (∀ x ∈ ps, x.1.length ≤ 60 ∧ x.2 ≤ 100000) ∧ size ps ≤ 1000000 ∧ ∀ H', Same H H' → Q (.str (tx (spell ps))) H'
theorem spell_map (ps : Pcs) : (ps.map fun y => rep y.1 y.2).flatten = spell ps := rfl
theorem ok__law_laid (T : Txt K mg) : FnOk P w K mg base CX0 1 T.f__law_laid.f T.f__law_laid.fd ["text"] (spLaid K) := by
  refine T.f__law_laid.F.ok sc__law_laid (fun vs H Q E h => ?_) (fun cdv A outer s H vs Q E hr h => ?_)
  · obtain ⟨v, ps, rfl, _⟩ := h
    rfl
  obtain ⟨v, ps, rfl, ⟨a, xs, rfl, hrow, hps⟩, hfew, hok, hsz, q⟩ := h
  have hxl := prd_len hps
  refine ⟨_, (pss_one (ps_ret (pe_join pe_str (pe_lc (own := [("word", 1), ("times", 2)]) rfl sc__law_laid.nd (pi_seq (pv 0)) (blkOk_by (own := [("word", 1), ("times", 2)]) (N := N__law_laid) (sc := defScope s__law_laid) (by decide +kernel)) (fun _ _ _ _ _ => (pg_seqK (n := 2) K rfl (pgs_cons (pg_name (i := 1) sc__law_laid.nd rfl (.inl rfl)) (pgs_cons (pg_name (i := 2) sc__law_laid.nd rfl (.inl rfl)) pgs_nil)))) (fun _ _ _ _ _ => pts_nil) (fun _ _ _ _ _ => (pe_op op_mul_str (pv 1) (pv 2))))))), ?_⟩
  walk_at "rd"
  refine ⟨⟨_, rfl⟩, lc_rowX (a := a) (xs := xs) rfl hrow (Same.refl _) (fun D i H' => Same H H' ∧ H' D = some (.lst (((ps.map fun y => rep y.1 y.2).take i).map fun z => V.str (tx z))))
    (fun D nD => ⟨same_upd nD, by rw [upd_same, List.take_zero]; rfl⟩) (fun D i H' h => h.1) ?_ ?_⟩
  · rintro D i x H' nD hx ⟨s1, hD⟩
    obtain ⟨y, hy, b, rfl, hb⟩ := prd_at hps hx
    have hyk := hok y (List.mem_of_getElem? hy)
    have hi := (List.getElem?_eq_some_iff.mp hx).1
    refine gSeq.row (hb.same s1) rfl ?_
    walk_at "rd"
    refine ⟨_, _, rfl, _, _, rfl, rfl, rfl, ?_⟩
    refine ⟨_, rfl, _, rfl, tx y.1, y.2, rfl, rfl, mul_ok 60 100000 hyk.1 hyk.2 (by decide) (by decide), _, hD, ?_, same_mut s1 nD, ?_⟩
    · rw [List.length_map, List.length_take, List.length_map]
      exact Nat.lt_of_le_of_lt (show min i ps.length ≤ 1000 by omega) (by decide)
    · rw [upd_same, mul_tx, List.take_add_one, List.getElem?_map, hy, List.map_append]
      rfl
  · rintro D H' nD ⟨s1, hD⟩
    rw [List.take_of_length_le (by rw [List.length_map, hxl]; exact Nat.le_refl _)] at hD
    refine ⟨tx [], D, (ps.map fun y => rep y.1 y.2).map tx, rfl, rfl, .inl (SqL.of (by rw [hD]; simp only [List.map_map]; rfl)), ?_, ?_⟩
    · have e1 : (((ps.map fun y => rep y.1 y.2).map tx).map (·.length)) = (ps.map fun y => rep y.1 y.2).map (·.length) := by rw [List.map_map]; exact List.map_congr_left fun x _ => tx_len x
      rw [e1, sum_le_len, spell_map, spell_len, tx_len, List.length_nil, Nat.mul_zero]
      exact Nat.le_trans (show size ps + 0 ≤ 1000000 by omega) (by decide)
    · rw [join_tx, spell_map]
      exact q _ s1
/-! ## where two texts part, as told -/
open Classical in
noncomputable def prt (x y : List Nat) : Dt := if h : ∃ i, Unlike x y i then .int (h.choose : Int) else .non
theorem prt_unlike {x y : List Nat} {i : Nat} (h : Unlike x y i) : prt x y = .int (i : Int) := by
  have hh : ∃ i, Unlike x y i := ⟨i, h⟩
  unfold prt
  rw [dif_pos hh, Unlike.uniq hh.choose_spec h]
theorem prt_eq {x y : List Nat} (h : x = y) : prt x y = .non := by
  unfold prt
  exact dif_neg fun ⟨i, hi⟩ => hi.ne h
theorem prt_symm (x y : List Nat) : prt x y = prt y x := by
  by_cases h : ∃ i, Unlike x y i
  · obtain ⟨i, hi⟩ := h
    rw [prt_unlike hi, prt_unlike hi.symm]
  · have h2 : ¬ ∃ i, Unlike y x i := fun ⟨i, hi⟩ => h ⟨i, hi.symm⟩
    unfold prt
    rw [dif_neg h, dif_neg h2]
def spDue (K : PySem.W.Frag) : Sp := fun vs H Q _ => ∃ x y : List Nat, vs = [.str (tx x), .str (tx y)] ∧ x.length ≤ 1000000 ∧ y.length ≤ 1000000 ∧ ∀ v, (∀ H', At K H' v (prt x y)) → Q v H

theorem share {R G : Prop} (h : R → G) (r : R) : G := h r
theorem go_lst {p a : Addr} {H H' : Hp} {xs : List V} {ps : Pcs} (hap : a ≠ p) (h : H a = some (.lst xs)) (hp : Paired (PcT p H) xs ps) : TxtL p H a ps := ⟨hap, xs, h, hp⟩
theorem rep_two (x : List Nat) (c m : Nat) : rep x (c + m) = rep x c ++ rep x m := rep_add x m c
theorem rep_dbl (x : List Nat) : ∀ n, rep (x ++ x) n = rep x (2 * n)
  | 0 => rfl
  | n + 1 => by rw [rep_succ, rep_dbl x n, show 2 * (n + 1) = (2 * n + 1) + 1 by omega, rep_succ, rep_succ, List.append_assoc]
theorem rep_turn (a b : List Nat) : ∀ n, a ++ rep (b ++ a) n ++ b = rep (a ++ b) (n + 1)
  | 0 => by rw [rep_zero, List.append_nil, rep_succ, rep_zero, List.append_nil]
  | n + 1 => by
    rw [rep_succ (a ++ b), ← rep_turn a b n, rep_succ]
    simp only [List.append_assoc]
theorem rep_one (x : List Nat) : rep x 1 = x := by rw [rep_succ, rep_zero, List.append_nil]
theorem spell_two (p q : List Nat × Nat) : spell [p, q] = rep p.1 p.2 ++ rep q.1 q.2 := by rw [spell_cons, spell_cons, spell_nil, List.append_nil]
theorem spell_one (p : List Nat × Nat) : spell [p] = rep p.1 p.2 := by rw [spell_cons, spell_nil, List.append_nil]
theorem plain_take {x : List Nat} (h : Plain x) (i : Nat) : Plain (x.take i) := List.all_eq_true.mpr fun c hc => List.all_eq_true.mp h c (List.mem_of_mem_take hc)
theorem plain_drop {x : List Nat} (h : Plain x) (i : Nat) : Plain (x.drop i) := List.all_eq_true.mpr fun c hc => List.all_eq_true.mp h c (List.mem_of_mem_drop hc)
theorem plain_app {x y : List Nat} (h : Plain x) (k : Plain y) : Plain (x ++ y) := by
  show (x ++ y).all _ = true
  rw [List.all_append, show x.all (alpha.contains ·) = true from h, show y.all (alpha.contains ·) = true from k]
  rfl
def OkW (x : List Nat × Nat) : Prop := Plain x.1 ∧ x.1 ≠ [] ∧ x.1.length ≤ 60 ∧ 1 ≤ x.2

/-! ## the same letters by other pieces -/
def spPieces (K : PySem.W.Frag) : Sp := fun vs H Q _ => ∃ (p : Addr) (x : List Nat), vs = [.ref p, .str (tx x)] ∧ Spr H p ∧ Plain x ∧ x.length ≤ 40 ∧
  ∀ H' a ps, Go p H H' → H a = none → TxtL p H' a ps → spell ps = x → ps.length ≤ 40 → (∀ y ∈ ps, OkW y ∧ y.2 ≤ 40) → Q (.ref a) H'
theorem plain_cut {x : List Nat} (h : Plain x) (i j : Nat) : Plain ((x.drop i).take j) := plain_take (plain_drop h i) j
theorem rep_le {w : List Nat} {n : Nat} (h : w ≠ []) : n ≤ (rep w n).length := by
  rw [rep_len]
  exact Nat.le_mul_of_pos_right _ (List.length_pos_iff.mpr h)

theorem plain_rep {x : List Nat} (h : Plain x) (n : Nat) : Plain (rep x n) := List.all_eq_true.mpr fun c hc => List.all_eq_true.mp h c (rep_mem hc)
/-- first_unlike, as one promise -/
theorem fu_of {v u : V} {d e : Dt} {H : Hp} {Q : VK} {E : XK} (hv : At K H v d) (hu : At K H u e) (hd : isText d = true) (he : isText e = true) (q : ∀ H' r, Same H H' → (∀ H2, At K H2 r (prt (spell (pcs d)) (spell (pcs e)))) → Q r H') : spFirstUnlike K [v, u] H Q E :=
  ⟨v, u, d, e, rfl, hv, hu, hd, he, fun H' i s h => q H' _ s fun H2 => by rw [prt_unlike h]; unfold At; rfl, fun H' s h => q H' _ s fun H2 => by rw [prt_eq h]; unfold At; rfl⟩
theorem good_one {x : List Nat} {n : Nat} (h : OkW (x, n)) (hn : n ≤ 1000) : Good [(x, n)] :=
  ⟨by show 1 ≤ 40; decide, fun y hy => by
    have : y = (x, n) := by simpa using hy
    subst this
    exact ⟨⟨h.1, h.2.1, h.2.2.1⟩, h.2.2.2⟩, by
    have h1 : x.length * n ≤ 60 * 1000 := Nat.mul_le_mul h.2.2.1 hn
    have h2 : size [(x, n)] = x.length * n + 0 := rfl
    have h3 : 60 * 1000 ≤ 10 ^ 30 := by decide
    omega⟩
theorem prt_two {x y : List Nat} {H : Hp} {a b : Addr} {r s d : V} (ha : H a = some (.lst [r, s])) (hb : H b = some (.lst [d, d])) (hr : ∀ H2, At K H2 r (prt x y)) (hs : ∀ H2, At K H2 s (prt y x)) (hd : ∀ H2, At K H2 d (prt x y)) :
    At K H (.ref a) (.lst [prt x y, prt x y]) ∧ At K H (.ref b) (.lst [prt x y, prt x y]) := by
  rw [prt_symm y x] at hs
  refine ⟨?_, ?_⟩
  · unfold At
    refine ⟨a, _, rfl, SqL.of ha, ?_⟩
    unfold Ats
    refine ⟨_, _, rfl, hr H, ?_⟩
    unfold Ats
    exact ⟨_, _, rfl, hs H, by unfold Ats; rfl⟩
  · unfold At
    refine ⟨b, _, rfl, SqL.of hb, ?_⟩
    unfold Ats
    refine ⟨_, _, rfl, hd H, ?_⟩
    unfold Ats
    exact ⟨_, _, rfl, hd H, by unfold Ats; rfl⟩
theorem prt_lf (x y : List Nat) : (∃ i : Nat, prt x y = .int (i : Int) ∧ i ≤ max x.length y.length) ∨ prt x y = .non := by
  by_cases h : ∃ i, Unlike x y i
  · obtain ⟨i, hi⟩ := h
    exact .inl ⟨i, prt_unlike hi, hi.le⟩
  · refine .inr ?_
    unfold prt
    exact dif_neg h
theorem prt_fits {x y : List Nat} (hx : x.length ≤ 1000000) (hy : y.length ≤ 1000000) : Fits (.lst [prt x y, prt x y]) ∧ deep (.lst [prt x y, prt x y]) < 2 ∧ bulk (.lst [prt x y, prt x y]) ≤ 300000 := by
  rcases prt_lf x y with ⟨i, e, hi⟩ | e
  · rw [e]
    simp only [Fits, FitsAll, deep, deepAll, bulk, bulkAll, and_true, and_self]
    have h1 : (i : Int).natAbs < 10 ^ 47 := Nat.lt_of_le_of_lt (show (i : Int).natAbs ≤ 1000000 by omega) (by decide)
    exact ⟨h1, by decide, by decide⟩
  · rw [e]
    simp only [Fits, FitsAll, deep, deepAll, bulk, bulkAll, and_true, and_self]
    exact ⟨trivial, by decide, by decide⟩
def spLong : Sp := fun vs H Q _ => ∃ (p : Addr), vs = [.ref p] ∧ Spr H p ∧ ∀ H', Go p H H' → Q (.bl true) H'

/-! ## texts as lists of lists, that are changed in place -/
def dOL (ps : Pcs) : Dt := .lst (ps.map fun x => .lst [.str x.1, .int (x.2 : Int)])
theorem norm_dOf (ps : Pcs) : norm (dOf ps) = dOL ps := by
  unfold dOf dOL
  simp only [norm, normAll_map, List.map_map]
  congr 1
theorem norm_dOL (ps : Pcs) : norm (dOL ps) = dOL ps := by rw [← norm_dOf, norm_norm]
structure HeldL (H : Hp) (h : Addr) (ps : Pcs) (bs : List Addr) : Prop where
  top : H h = some (.lst (bs.map V.ref))
  len : bs.length = ps.length
  nd : (h :: bs).Nodup
  it : ∀ (i : Nat) b x, bs[i]? = some b → ps[i]? = some x → H b = some (.lst [.str (tx x.1), .int (x.2 : Int)])
theorem atFs_held {H : Hp} : ∀ {ps : Pcs} {vs : List V} {fs : List Addr}, AtFs H vs (ps.map fun x => Dt.lst [.str x.1, .int (x.2 : Int)]) fs → vs = fs.map V.ref ∧ fs.length = ps.length ∧ ∀ (i : Nat) b x, fs[i]? = some b → ps[i]? = some x → H b = some (.lst [.str (tx x.1), .int (x.2 : Int)])
  | [], vs, fs, h => by
    rw [List.map_nil] at h
    unfold AtFs at h
    obtain ⟨rfl, rfl⟩ := h
    exact ⟨rfl, rfl, fun i b x e => by simp at e⟩
  | y :: ps, vs, fs, h => by
    rw [List.map_cons] at h
    unfold AtFs at h
    obtain ⟨v, us, f, gs, rfl, h1, h2, rfl⟩ := h
    unfold AtF at h1
    obtain ⟨a, xs, f2, rfl, h3, h4, rfl⟩ := h1
    unfold AtFs at h4
    obtain ⟨v1, us1, g1, gs1, rfl, k1, h4, rfl⟩ := h4
    unfold AtF at k1
    obtain ⟨rfl, _, rfl⟩ := k1
    unfold AtFs at h4
    obtain ⟨v2, us2, g2, gs2, rfl, k2, h4, rfl⟩ := h4
    unfold AtF at k2
    obtain ⟨rfl, rfl⟩ := k2
    unfold AtFs at h4
    obtain ⟨rfl, rfl⟩ := h4
    obtain ⟨e1, e2, e3⟩ := atFs_held h2
    subst e1
    refine ⟨rfl, by simp [e2], fun i b x hb hx => ?_⟩
    cases i with
    | zero =>
      have eb : a = b := by simpa using hb
      have ex : y = x := by simpa using hx
      subst eb ex
      exact h3
    | succ i => exact e3 i b x (by simpa using hb) (by simpa using hx)
theorem held_of {H : Hp} {u : V} {ps : Pcs} {fp : List Addr} (h : AtF H u (dOL ps) fp) (hn : fp.Nodup) : ∃ a bs, u = .ref a ∧ HeldL H a ps bs ∧ fp = a :: bs := by
  unfold dOL at h
  unfold AtF at h
  obtain ⟨a, xs, fs, rfl, h1, h2, rfl⟩ := h
  obtain ⟨e1, e2, e3⟩ := atFs_held h2
  subst e1
  exact ⟨a, fs, rfl, ⟨h1, e2, hn, e3⟩, rfl⟩
theorem ats_held {K : PySem.W.Frag} {H : Hp} : ∀ {ps : Pcs} {bs : List Addr}, bs.length = ps.length → (∀ x ∈ ps, x.1.length ≤ 60) → (∀ (i : Nat) b x, bs[i]? = some b → ps[i]? = some x → H b = some (.lst [.str (tx x.1), .int (x.2 : Int)])) → Ats K H (bs.map V.ref) (ps.map fun x => Dt.lst [.str x.1, .int (x.2 : Int)])
  | [], [], _, _, _ => by
    show Ats K H [] []
    unfold Ats
    rfl
  | [], _ :: _, h, _, _ => by simp at h
  | _ :: _, [], h, _, _ => by simp at h
  | y :: ps, b :: bs, h, h60, it => by
    rw [List.map_cons, List.map_cons]
    unfold Ats
    refine ⟨_, _, rfl, ?_, ats_held (by simpa using h) (fun x hx => h60 x (List.mem_cons_of_mem _ hx)) fun i c x hc hx => it (i + 1) c x (by simpa using hc) (by simpa using hx)⟩
    unfold At
    refine ⟨b, _, rfl, SqL.of (it 0 b y rfl rfl), ?_⟩
    unfold Ats
    refine ⟨_, _, rfl, by unfold At; exact ⟨rfl, Nat.le_trans (h60 y (List.mem_cons_self ..)) (by decide)⟩, ?_⟩
    unfold Ats
    exact ⟨_, _, rfl, by unfold At; rfl, by unfold Ats; rfl⟩
theorem HeldL.at {K : PySem.W.Frag} {H : Hp} {a : Addr} {ps : Pcs} {bs : List Addr} (h : HeldL H a ps bs) (h60 : ∀ x ∈ ps, x.1.length ≤ 60) : At K H (.ref a) (dOL ps) := by
  unfold dOL
  unfold At
  exact ⟨a, _, rfl, SqL.of h.top, ats_held h.len h60 h.it⟩
theorem HeldL.same {H H' : Hp} {a : Addr} {ps : Pcs} {bs : List Addr} (h : HeldL H a ps bs) (e : ∀ b o, b ∈ a :: bs → H b = some o → H' b = some o) : HeldL H' a ps bs :=
  ⟨e _ _ (List.mem_cons_self ..) h.top, h.len, h.nd, fun i b x hb hx => e _ _ (List.mem_cons_of_mem _ (List.mem_of_getElem? hb)) (h.it i b x hb hx)⟩
theorem HeldL.go {p : Addr} {H H' : Hp} {a : Addr} {ps : Pcs} {bs : List Addr} (h : HeldL H a ps bs) (g : Go p H H') (hp : p ∉ a :: bs) : HeldL H' a ps bs :=
  h.same fun b o hb e => g.keep b o (fun z => hp (by rw [← z]; exact hb)) e
theorem nd_inj {α : Type} : ∀ {l : List α} {i j : Nat} {x : α}, l.Nodup → l[i]? = some x → l[j]? = some x → i = j
  | [], i, j, x, _, h, _ => by simp at h
  | y :: l, 0, 0, x, _, _, _ => rfl
  | y :: l, 0, j + 1, x, n, h, k => by
    have e : y = x := by simpa using h
    subst e
    exact absurd (List.mem_of_getElem? (by simpa using k)) (List.nodup_cons.mp n).1
  | y :: l, i + 1, 0, x, n, h, k => by
    have e : y = x := by simpa using k
    subst e
    exact absurd (List.mem_of_getElem? (by simpa using h)) (List.nodup_cons.mp n).1
  | y :: l, i + 1, j + 1, x, n, h, k => by
    have h1 : l[i]? = some x := by simpa using h
    have k1 : l[j]? = some x := by simpa using k
    exact congrArg (· + 1) (nd_inj (List.nodup_cons.mp n).2 h1 k1)
/-- one piece's list is changed -/
theorem HeldL.put {H : Hp} {a b : Addr} {ps : Pcs} {bs : List Addr} {i : Nat} {x : List Nat × Nat} (h : HeldL H a ps bs) (hb : bs[i]? = some b) : HeldL (upd H b (.lst [.str (tx x.1), .int (x.2 : Int)])) a (ps.set i x) bs := by
  have hbm := List.mem_of_getElem? hb
  have hnd := List.nodup_cons.mp h.nd
  refine ⟨?_, by rw [List.length_set]; exact h.len, h.nd, fun j c y hc hy => ?_⟩
  · rw [upd_ne (fun z => hnd.1 (by rw [z]; exact hbm))]
    exact h.top
  · by_cases hj : i = j
    · subst hj
      rw [hb] at hc
      cases hc
      have hl := (List.getElem?_eq_some_iff.mp hb).1
      rw [List.getElem?_set_self (by rw [← h.len]; exact hl)] at hy
      cases hy
      exact upd_same
    · rw [List.getElem?_set_ne hj] at hy
      have hne : c ≠ b := fun z => by
        subst z
        have h1 := List.getElem?_eq_some_iff.mp hb
        have h2 := List.getElem?_eq_some_iff.mp hc
        exact hj (nd_inj hnd.2 hb hc)
      rw [upd_ne hne]
      exact h.it j c y hc hy
/-! ## texts that may be handed in and shown -/
structure Nice (d : Dt) : Prop where
  text : isText d = true
  fits : Fits d
  deep : deep d ≤ 2
  bulk : bulk d ≤ 5000
  few : ∀ x ∈ pcs d, x.1.length ≤ 60 ∧ x.2 ≤ 100000
  size : size (pcs d) ≤ 1000000
theorem Nice.row {d : Dt} (h : Nice d) : isRow d = true := by
  have := h.text
  unfold isText at this
  simp only [Bool.and_eq_true] at this
  exact this.1.1.1
theorem Nice.like {d e : Dt} (h : Nice d) (n : norm e = norm d) : Nice e := by
  refine ⟨by rw [isText_like n]; exact h.text, ?_, ?_, ?_, by rw [pcs_like n]; exact h.few, by rw [pcs_like n]; exact h.size⟩
  · rw [← fits_norm, n, fits_norm]; exact h.fits
  · rw [← deep_norm, n, deep_norm]; exact h.deep
  · rw [← bulk_norm, n, bulk_norm]; exact h.bulk
theorem nice_dOL {ps : Pcs} (h : ∀ x ∈ ps, OkW x ∧ x.2 ≤ 100000) (hl : ps.length ≤ 40) (hz : BK.size ps ≤ 1000000) : Nice (dOL ps) := by
  have hg : Good ps := ⟨hl, fun x hx => ⟨⟨(h x hx).1.1, (h x hx).1.2.1, (h x hx).1.2.2.1⟩, (h x hx).1.2.2.2⟩, Nat.le_trans hz (by decide)⟩
  have hp : pcs (dOL ps) = ps := by rw [← norm_dOf, pcs_norm, pcs_dOf]
  refine ⟨by rw [← norm_dOf, isText_norm]; exact isText_dOf hg, ?_, ?_, ?_, ?_, by rw [hp]; exact hz⟩
  · unfold dOL
    simp only [Fits]
    refine fitsAll_of fun d hd => ?_
    obtain ⟨x, hx, rfl⟩ := List.mem_map.mp hd
    simp only [Fits, FitsAll, and_true]
    refine ⟨fun c hc => ?_, ?_⟩
    · have := plain_mem (h x hx).1.1 hc
      rw [List.contains_iff_mem] at this
      have hk : ∀ c ∈ alpha, c < 4294967296 := by decide
      exact hk c this
    · have := (h x hx).2
      exact Nat.lt_of_le_of_lt (show ((x.2 : Nat) : Int).natAbs ≤ 100000 by omega) (by decide)
  · unfold dOL
    simp only [BK.deep]
    have : deepAll (ps.map fun x => Dt.lst [.str x.1, .int (x.2 : Int)]) ≤ 1 := deepAll_le fun d hd => by
      obtain ⟨x, hx, rfl⟩ := List.mem_map.mp hd
      simp only [BK.deep, deepAll]
      omega
    omega
  · unfold dOL
    simp only [BK.bulk]
    have := bulkAll_le (n := 62) (ds := ps.map fun x => Dt.lst [.str x.1, .int (x.2 : Int)]) fun d hd => by
      obtain ⟨x, hx, rfl⟩ := List.mem_map.mp hd
      have := (h x hx).1.2.2.1
      simp only [BK.bulk, bulkAll]
      omega
    rw [List.length_map] at this
    omega
  · rw [hp]
    exact fun x hx => ⟨(h x hx).1.2.2.1, (h x hx).2⟩
theorem nice_dOf {ps : Pcs} (h : ∀ x ∈ ps, OkW x ∧ x.2 ≤ 100000) (hl : ps.length ≤ 40) (hz : BK.size ps ≤ 1000000) : Nice (dOf ps) := (nice_dOL h hl hz).like (by rw [norm_dOf, norm_dOL])
theorem neat_two {d e : Dt} (h : Nice d) (k : Nice e) : Neat (.lst [d, e]) := by
  refine ⟨?_, ?_, ?_⟩
  · simp only [Fits, FitsAll, and_true]
    exact ⟨h.fits, k.fits⟩
  · have h1 := h.deep
    have h2 := k.deep
    simp only [BK.deep, deepAll]
    omega
  · have h1 := h.bulk
    have h2 := k.bulk
    simp only [BK.bulk, bulkAll]
    omega
theorem at_two {K : PySem.W.Frag} {H : Hp} {c : Addr} {v u : V} {d e : Dt} (hc : H c = some (.lst [v, u])) (hv : At K H v d) (hu : At K H u e) : At K H (.ref c) (.lst [d, e]) := by
  unfold At
  refine ⟨c, _, rfl, SqL.of hc, ?_⟩
  unfold Ats
  refine ⟨_, _, rfl, hv, ?_⟩
  unfold Ats
  exact ⟨_, _, rfl, hu, by unfold Ats; rfl⟩
theorem TxtL.hid {p : Addr} {H : Hp} {a : Addr} {ps : Pcs} (h : TxtL p H a ps) : TxtL p (hid p H) a ps := by
  obtain ⟨h1, xs, h2, h3⟩ := h
  exact ⟨h1, xs, by rw [hid_ne h1]; exact h2, prd_same (fun v x ⟨b, e1, e2, e3⟩ => ⟨b, e1, e2, by rw [hid_ne e2]; exact e3⟩) h3⟩
theorem laid_of {v : V} {d : Dt} {H : Hp} {Q : VK} {E : XK} (hv : At K H v d) (hd : Nice d) (q : ∀ H', Same H H' → Q (.str (tx (spell (pcs d)))) H') : spLaid K [v] H Q E := by
  refine ⟨v, pcs d, rfl, textAt_of hv hd.text, ?_, hd.few, hd.size, q⟩
  have := (Good.of hd.text).few
  omega
theorem TxtL.re {p D : Addr} {H : Hp} {a : Addr} {ps : Pcs} {us : List V} (h : TxtL p H a ps) (hD : H D = some (.lst us)) (haD : a ≠ D) : TxtL D H a ps := by
  obtain ⟨h1, xs, h2, h3⟩ := h
  exact ⟨haD, xs, h2, prd_same (fun v x ⟨b, e1, e2, e3⟩ => ⟨b, e1, (fun z => by rw [z, hD] at e3; cases e3), e3⟩) h3⟩
theorem Ats.app {K : PySem.W.Frag} {H : Hp} {us : List V} {es : List Dt} (h2 : Ats K H us es) : ∀ {ds : List Dt} {vs : List V}, Ats K H vs ds → Ats K H (vs ++ us) (ds ++ es)
  | [], vs, h => by
    unfold Ats at h
    subst h
    exact h2
  | c :: ds, vs, h => by
    unfold Ats at h
    obtain ⟨u, ws, rfl, h1, h3⟩ := h
    show Ats K H (u :: (ws ++ us)) (c :: (ds ++ es))
    unfold Ats
    exact ⟨u, ws ++ us, rfl, h1, Ats.app h2 h3⟩
theorem ats_two {K : PySem.W.Frag} {H : Hp} {v u : V} {d e : Dt} (hv : At K H v d) (hu : At K H u e) : Ats K H [v, u] [d, e] := by
  unfold Ats
  refine ⟨_, _, rfl, hv, ?_⟩
  unfold Ats
  exact ⟨_, _, rfl, hu, by unfold Ats; rfl⟩
theorem hnd_of {p : Addr} {v : V} {d : Dt} {H : Hp} {Q : VK} {E : XK} (hp : Spr H p) (hv : At K (hid p H) v d) (hn : Nice d) (q : ∀ H' u e, Go p H H' → At K (hid p H') u e → Nice e → pcs e = pcs d → Q u H') : spHanded K [.ref p, v] H Q E :=
  ⟨p, v, d, rfl, hp, hv, hn.row, hn.deep, hn.fits, by have := hn.bulk; omega, fun H' u e g hu h => q H' u e g hu (hn.like h) (pcs_like h)⟩
theorem HeldL.trk {H : Hp} {a : Addr} {ps : Pcs} {bs : List Addr} (h : HeldL H a ps bs) : ∀ b ∈ a :: bs, ∃ o, H b = some o := by
  intro b hb
  rcases List.mem_cons.mp hb with rfl | hb
  · exact ⟨_, h.top⟩
  · obtain ⟨i, hi⟩ := List.mem_iff_getElem?.mp hb
    have hl := (List.getElem?_eq_some_iff.mp hi).1
    exact ⟨_, h.it i b _ hi (List.getElem?_eq_getElem (by rw [← h.len]; exact hl))⟩
theorem held_join {H E : Hp} {a h c : Addr} {ps : Pcs} {bs : List Addr} {x : List Nat × Nat} (hh : HeldL H a ps bs) (s : Same H E) (nc : H c = none) (hc : E c = some (.lst [.str (tx x.1), .int (x.2 : Int)])) (top : E h = some (.lst ((bs ++ [c]).map V.ref))) (hb : h ∉ bs ++ [c]) : HeldL E h (ps ++ [x]) (bs ++ [c]) := by
  refine ⟨top, by rw [List.length_append, List.length_append, hh.len]; rfl, List.nodup_cons.mpr ⟨hb, List.nodup_append.mpr ⟨(List.nodup_cons.mp hh.nd).2, by simp, fun b hb1 c2 hc2 z => ?_⟩⟩, fun i b y hb hy => ?_⟩
  · have : c2 = c := by simpa using hc2
    subst this
    subst z
    obtain ⟨o, ho⟩ := hh.trk b (List.mem_cons_of_mem _ hb1)
    rw [nc] at ho
    cases ho
  · by_cases hi : i < bs.length
    · rw [List.getElem?_append_left hi] at hb
      rw [List.getElem?_append_left (by rw [← hh.len]; exact hi)] at hy
      exact s _ _ (hh.it i b y hb hy)
    · rw [List.getElem?_append_right (by omega)] at hb
      rw [List.getElem?_append_right (by rw [← hh.len]; omega)] at hy
      have h0 : i - bs.length = 0 := by
        have := (List.getElem?_eq_some_iff.mp hb).1
        simp at this
        omega
      rw [h0] at hb
      rw [← hh.len, h0] at hy
      have e1 : c = b := by simpa using hb
      have e2 : x = y := by simpa using hy
      subst e1 e2
      exact hc
theorem pcs_dOL (ps : Pcs) : pcs (dOL ps) = ps := by rw [← norm_dOf, pcs_norm, pcs_dOf]
theorem Nice.dOL {ps : Pcs} (h : Nice (dOf ps)) : Nice (dOL ps) := h.like (by rw [norm_dOL, norm_dOf])

theorem nth_uniq {l : List Nat} {c k i j : Nat} (h : IsNth l c k i) (g : IsNth l c k j) : i = j := by
  have key : ∀ {i j : Nat}, IsNth l c k i → IsNth l c k j → ¬ i < j := fun {i j} h g hlt => by
    have h1 : (l.take (i + 1)).count c = k + 1 := by
      rw [List.take_add_one, h.1, List.count_append, h.2]
      simp
    have h2 : (l.take (i + 1)).count c ≤ (l.take j).count c := by
      have e : l.take (i + 1) = (l.take j).take (i + 1) := by rw [List.take_take, Nat.min_eq_left (by omega)]
      rw [e]
      exact (List.take_sublist _ _).count_le _
    have h3 := g.2
    omega
  have h1 := key h g
  have h2 := key g h
  omega
def posOf (l : List Nat) (c n : Nat) : List Nat := (List.range n).filter fun i => l[i]? == some c
theorem posOf_succ (l : List Nat) (c n : Nat) : posOf l c (n + 1) = posOf l c n ++ (if l[n]? = some c then [n] else []) := by
  unfold posOf
  rw [List.range_succ, List.filter_append]
  congr 1
  by_cases h : l[n]? = some c
  · rw [if_pos h, List.filter_cons, h]
    simp
  · rw [if_neg h, List.filter_cons, if_neg (by simpa using h)]
    rfl
theorem k_abzyx : ("abzyx" : Str) = tx [97, 98, 122, 121, 120] := by decide +kernel
/-- leaves told alike -/
theorem same_of {n : Nat} {v : V} {d : Dt} {H : Hp} {Q : VK} {E : XK} (hv : At K H v d) (hd : deep d < n) (hf : Fits d) (hb : bulk d ≤ 300000) (q : ∀ H', Same H H' → Q (.bl true) H') : spSame n K [v, v] H Q E := ⟨v, v, d, rfl, hv, hv, hd, hf, hb, q⟩
theorem same_str {x : List Nat} {H : Hp} {Q : VK} {E : XK} (hx : x.length ≤ 300000) (hp : Plain x) (q : ∀ H', Same H H' → Q (.bl true) H') : spSame 1 K [.str (tx x), .str (tx x)] H Q E := by
  refine same_of (d := .str x) ?_ (by simp only [deep]; decide) ?_ (by simp only [bulk]; exact hx) q
  · unfold At
    exact ⟨rfl, by omega⟩
  · simp only [Fits]
    intro c hc
    have := plain_mem hp hc
    rw [List.contains_iff_mem] at this
    have hk : ∀ c ∈ alpha, c < 4294967296 := by decide
    exact hk c this
theorem same_int {i : Int} {H : Hp} {Q : VK} {E : XK} (hi : i.natAbs < 10 ^ 47) (q : ∀ H', Same H H' → Q (.bl true) H') : spSame 1 K [.int i, .int i] H Q E :=
  same_of (d := .int i) (by unfold At; rfl) (by simp only [deep]; decide) (by simp only [Fits]; exact hi) (by simp only [bulk]; decide) q
theorem same_non {H : Hp} {Q : VK} {E : XK} (q : ∀ H', Same H H' → Q (.bl true) H') : spSame 1 K [.non, .non] H Q E :=
  same_of (d := .non) (by unfold At; rfl) (by simp only [deep]; decide) (by simp only [Fits]) (by simp only [bulk]; decide) q
theorem nice_plain {d : Dt} (h : Nice d) : Plain (spell (pcs d)) := List.all_eq_true.mpr fun z hz => by
  have := spell_alpha (Good.of h.text) hz
  rw [List.contains_iff_mem]
  exact this
theorem nice_neat {d : Dt} (h : Nice d) : Neat d := ⟨h.fits, by have := h.deep; omega, by have := h.bulk; omega⟩
def spRight (K : PySem.W.Frag) : Sp := fun vs H Q _ => ∃ p v a d e, vs = [.ref p, v, .ref a] ∧ Spr H p ∧ At K (hid p H) v d ∧ At K (hid p H) (.ref a) e ∧ Nice d ∧ Nice e ∧ pcs e = pcs d ∧ size (pcs d) ≤ 1000 ∧ ∀ H', Go p H H' → Q (.bl true) H'
theorem ok__law_right (T : Txt K mg) : FnG P w K mg base CX0 8 T.f__law_right.f T.f__law_right.fd ["spring", "text", "handed"] (spRight K) := by
  refine funG T.f__law_right.F sc__law_right (fun vs H Q E h => ?_) (fun cdv A outer s H vs Q E hg hr h => ?_)
  · obtain ⟨p, v, u, d, e, rfl, _⟩ := h
    rfl
  obtain ⟨p, v, u, d, e, rfl, hp, hv, hu, hd, he, hpc, hsz, q⟩ := h
  refine ⟨_, (pss_cons (ps_set (i := 3) sc__law_right.nd rfl (.inr rfl) (pe_call (ok__law_laid T) (hr.mono (by decide)) (by rfl) T.f__law_laid.g T.f__law_laid.F.kp T.f__law_laid.b .nil pass0 (pa_cons (pv 1) pa_nil)))
      (pss_cons (ps_set (i := 4) sc__law_right.nd rfl (.inl rfl) (pe_callB (call_lenK K) (by rfl) T.b_len (by decide +kernel) (pa_cons (pv 3) pa_nil)))
      (pss_cons (ps_set (i := 5) sc__law_right.nd rfl (.inl rfl) (pe_callB (call_reprG hg hr.units) (by rfl) T.b_repr (by decide +kernel) (pa_cons (pv 2) pa_nil)))
      (pss_cons (ps_if (pt_not (pt_val (pe_call (ok__law_same T 1) (hr.mono (by first | decide | omega)) (by rfl) T.f__law_same.g T.f__law_same.F.kp T.f__law_same.b .nil pass0 (pa_cons (pe_join pe_str (pe_lc (own := [("place", 6)]) rfl sc__law_right.nd (pi_range1 (by rfl) T.b_range (pa_cons (pv 4) pa_nil)) (blkOk_by (own := [("place", 6)]) (N := N__law_right) (sc := defScope s__law_right) (by decide +kernel)) (fun _ _ _ _ _ => (pg_name (i := 6) sc__law_right.nd rfl (.inl rfl))) (fun _ _ _ _ _ => pts_nil) (fun _ _ _ _ _ => (pe_call (ok_letter T) (hr.mono (by decide)) (by rfl) T.f_letter.g T.f_letter.F.kp T.f_letter.b .nil pass0 (pa_cons (pv 2) (pa_cons (pv 6) pa_nil)))))) (pa_cons (pv 3) pa_nil))))) (pss_one (ps_ret pe_bl)) pss_nil)
      (pss_cons (ps_for PassesOwn.never rfl (pi_range1 (by rfl) T.b_range (pa_cons pe_int pa_nil)) (pg_name (i := 7) sc__law_right.nd rfl (.inl rfl))
        (pss_cons (ps_par (i := 6) (j := 8) (by rfl) sc__law_right.nd rfl rfl (by decide) rfl rfl (pa_cons (pe_call (ok__law_draw T) (hr.mono (by decide)) (by rfl) T.f__law_draw.g T.f__law_draw.F.kp T.f__law_draw.b .nil pass0 (pa_cons (pv 0) (pa_cons (pe_op op_add (pv 4) pe_int) pa_nil))) (pa_cons (pe_call (ok__law_draw T) (hr.mono (by decide)) (by rfl) T.f__law_draw.g T.f__law_draw.F.kp T.f__law_draw.b .nil pass0 (pa_cons (pv 0) (pa_cons (pe_ix ix_seq (pe_lst (pa_cons pe_int (pa_cons pe_int pa_nil))) (pe_call (ok__law_draw T) (hr.mono (by decide)) (by rfl) T.f__law_draw.g T.f__law_draw.F.kp T.f__law_draw.b .nil pass0 (pa_cons (pv 0) (pa_cons pe_int pa_nil))) (fun _ _ => rfl)) pa_nil))) pa_nil)) (by rfl))
      (pss_cons (ps_if (pt_not (pt_val (pe_call (ok__law_same T 1) (hr.mono (by first | decide | omega)) (by rfl) T.f__law_same.g T.f__law_same.F.kp T.f__law_same.b .nil pass0 (pa_cons (pe_call (ok_looks T) (hr.mono (by decide)) (by rfl) T.f_looks.g T.f_looks.F.kp T.f_looks.b .nil pass0 (pa_cons (pv 2) (pa_cons (pv 6) (pa_cons (pv 8) pa_nil)))) (pa_cons (pe_slice sl_str (pv 3) (po_some (pv 6)) (po_some (pe_op op_add (pv 6) (pv 8)))) pa_nil))))) (pss_one (ps_ret pe_bl)) pss_nil)
      (pss_cons (ps_set (i := 9) sc__law_right.nd rfl (.inr rfl) (pe_ix ix_seq pe_str (pe_call (ok__law_draw T) (hr.mono (by decide)) (by rfl) T.f__law_draw.g T.f__law_draw.F.kp T.f__law_draw.b .nil pass0 (pa_cons (pv 0) (pa_cons pe_int pa_nil))) (fun _ _ => rfl)))
      (pss_cons (ps_set (i := 10) sc__law_right.nd rfl (.inl rfl) (pe_ix ix_seq (pe_lst (pa_cons (pe_call (ok__law_draw T) (hr.mono (by decide)) (by rfl) T.f__law_draw.g T.f__law_draw.F.kp T.f__law_draw.b .nil pass0 (pa_cons (pv 0) (pa_cons (pe_op op_add (pv 4) pe_int) pa_nil))) (pa_cons (pv 4) pa_nil))) (pe_call (ok__law_draw T) (hr.mono (by decide)) (by rfl) T.f__law_draw.g T.f__law_draw.F.kp T.f__law_draw.b .nil pass0 (pa_cons (pv 0) (pa_cons pe_int pa_nil))) (fun _ _ => rfl)))
      (pss_cons (ps_if (pt_not (pt_val (pe_call (ok__law_same T 1) (hr.mono (by first | decide | omega)) (by rfl) T.f__law_same.g T.f__law_same.F.kp T.f__law_same.b .nil pass0 (pa_cons (pe_call (ok_count T) (hr.mono (by decide)) (by rfl) T.f_count.g T.f_count.F.kp T.f_count.b .nil pass0 (pa_cons (pv 2) (pa_cons (pv 9) (pa_cons (pv 10) pa_nil)))) (pa_cons (pe_m1 PySem.F.slot_str_count PySem.F.type_str_count mt_count (pe_slice sl_str (pv 3) po_none (po_some (pv 10))) (pv 9)) pa_nil))))) (pss_one (ps_ret pe_bl)) pss_nil)
      (pss_cons (ps_set (i := 11) sc__law_right.nd rfl (.inl rfl) (pe_op op_cat (pe_lc (own := [("at", 13)]) rfl sc__law_right.nd (pi_range1 (by rfl) T.b_range (pa_cons (pv 4) pa_nil)) (blkOk_by (own := [("at", 13)]) (N := N__law_right) (sc := defScope s__law_right) (by decide +kernel)) (fun _ _ _ _ _ => (pg_name (i := 13) sc__law_right.nd rfl (.inl rfl))) (fun _ _ _ _ _ => (pts_one (pt_cmpR op_eq (pe_ix (ix_seqK K) (pv 3) (pv 13) (fun _ _ => rfl)) (pv 9) (nomark _)))) (fun _ _ _ _ _ => (pv 13))) (pe_lst (pa_cons pe_non (pa_cons pe_non pa_nil)))))
      (pss_cons (ps_set (i := 12) sc__law_right.nd rfl (.inl rfl) (pe_call (ok__law_draw T) (hr.mono (by decide)) (by rfl) T.f__law_draw.g T.f__law_draw.F.kp T.f__law_draw.b .nil pass0 (pa_cons (pv 0) (pa_cons (pe_callB (call_lenK K) (by rfl) T.b_len (by decide +kernel) (pa_cons (pv 11) pa_nil)) pa_nil))))
      (pss_one (ps_if (pt_not (pt_val (pe_call (ok__law_same T 1) (hr.mono (by first | decide | omega)) (by rfl) T.f__law_same.g T.f__law_same.F.kp T.f__law_same.b .nil pass0 (pa_cons (pe_call (ok_nth T) (hr.mono (by decide)) (by rfl) T.f_nth.g T.f_nth.F.kp T.f_nth.b .nil pass0 (pa_cons (pv 2) (pa_cons (pv 9) (pa_cons (pv 12) pa_nil)))) (pa_cons (pe_ix ix_seq (pv 11) (pv 12) (fun _ _ => rfl)) pa_nil))))) (pss_one (ps_ret pe_bl)) pss_nil))))))))))
      (pss_one (ps_ret (pe_cmpR op_eq (pe_callB (call_reprG hg hr.units) (by rfl) T.b_repr (by decide +kernel) (pa_cons (pv 2) pa_nil)) (pv 5) (nomark _))))))))), ?_⟩
  walk_at "rd"
  refine ⟨_, rfl, laid_of (At.same (hid_same p _) _ _ hv) hd fun H1 s1 => ?_⟩
  have hpl := nice_plain hd
  generalize hld : spell (pcs d) = ld at *
  have hldl : ld.length ≤ 1000 := by rw [← hld, spell_len]; exact hsz
  have hsz2 : size (pcs e) = ld.length := by rw [hpc, ← hld, spell_len]
  have hspe : spell (pcs e) = ld := by rw [hpc, hld]
  have hls : (tx ld).length ≤ sizeLine := by rw [tx_len]; exact Nat.le_trans hldl (by decide)
  have hue : ∀ {H'}, Go p H H' → At K H' (.ref u) e := fun g => At.same (hid_same p _) _ _ (At.same g.hid _ _ hu)
  have g1 := Go.of_same hp s1
  refine ⟨_, rfl, len_tx (by omega) ⟨_, rfl, u, e, rfl, hue g1, nice_neat he, ?_⟩⟩
  refine ⟨⟨_, rfl⟩, lc_rng1 ?_⟩
  walk_at "rd"
  refine ⟨_, rfl, _, rfl, by omega, by omega, fun D nD => ?_⟩
  rw [show ((ld.length : Nat) : Int).toNat = ld.length from rfl]
  refine LcGo.range (fun i H' => Same H1 H' ∧ H' D = some (.lst ((ld.take i).map fun c => V.str (tx [c])))) ⟨same_upd nD, upd_same⟩ ?_ ?_
  · rintro i H' hi ⟨s2, hD⟩
    have hc : ld[i]? = some ld[i] := List.getElem?_eq_getElem hi
    walk_at "rd"
    refine ⟨rfl, _, rfl, _, rfl, _, e, i, ld[i], ?_, hue (g1.same s2), he.text, by rw [hspe]; exact hc, fun H3 s3 => ⟨_, s3 _ _ hD, ?_, same_mut (s2.trans s3) nD, ?_⟩⟩
    · rw [Int.zero_add]
    · rw [List.length_map, List.length_take]
      exact Nat.lt_of_le_of_lt (show min i ld.length ≤ 1000 by omega) (by decide)
    · rw [upd_same, List.take_add_one, hc, List.map_append]
      rfl
  rintro H2 ⟨s2, hD⟩
  rw [List.take_length] at hD
  walk_at "rd"
  refine ⟨tx [], D, (ld.map fun c => [c]).map tx, rfl, rfl, .inl (SqL.of (by rw [hD]; simp only [List.map_map]; rfl)), ?_, ?_⟩
  · rw [ones_len, tx_len, List.length_nil, Nat.mul_zero]
    exact Nat.le_trans (show ld.length + 0 ≤ 1000 by omega) (by decide)
  rw [join_tx, ones_flat]
  refine ⟨_, rfl, same_str (by omega) hpl fun H3 s3 => ⟨_, rfl, iteF ?_⟩⟩
  have g3 := (g1.same s2).same s3
  refine fr_rng1 ?_
  walk_at "rd"
  refine ⟨4, rfl, by decide, by decide, ForGo.range
    (fun i σ H' => ∃ y6 y7 y8 y9 y10 y11 y12 y13, σ = [some (.ref p), some v, some (.ref u), some (.str (tx ld)), some (.int ((ld.length : Nat) : Int)), some (.str (shw e)), y6, y7, y8, y9, y10, y11, y12, y13] ∧ Go p H H')
    ⟨_, _, _, _, _, _, _, _, rfl, g3⟩ ?_ ?_⟩
  · rintro i σ H4 hi ⟨y6, y7, y8, y9, y10, y11, y12, y13, rfl, g4⟩
    walk_at "rd"
    have lst2 : ∀ {H : Hp} {l : Addr} {o : HO}, H l = none → Go p H (upd H l o) → l ≠ p → Spr (upd H l o) p := fun _ g _ => g.spr
    refine ⟨_, rfl, _, rfl, _, _, rfl, rfl, p, _, rfl, g4.spr, by omega, small300 (by omega) (by omega), fun H5 pl g5 pl0 pll => ?_⟩
    obtain ⟨pl, rfl⟩ := Int.eq_ofNat_of_zero_le pl0
    have g5' := g4.trans g5
    refine ⟨_, rfl, by show 2 ≤ sizeLine; decide, fun l1 nl1 => ?_⟩
    have hl1 := g5'.spr.ne nl1
    have g6 := go_new (o := .lst [V.int 9, V.int 2001]) g5' nl1
    refine ⟨_, rfl, p, 2, rfl, g6.spr, by decide, by decide, fun H7 k1 g7 k10 k1l => ?_⟩
    obtain ⟨m, hm, hm1, hm2⟩ : ∃ m : Int, atI [V.int 9, V.int 2001] k1 = some (.int m) ∧ 1 ≤ m ∧ m ≤ 2001 := by
      have : k1 = 0 ∨ k1 = 1 := by omega
      rcases this with rfl | rfl
      · exact ⟨9, rfl, by decide, by decide⟩
      · exact ⟨2001, rfl, by decide, by decide⟩
    have g7' := g6.trans g7
    refine ix_lst (g7.keep _ _ hl1 upd_same) hm ⟨p, m, rfl, g7'.spr, by omega, small300 (by omega) (by omega), fun H8 mn g8 mn0 mnl => ⟨_, _, rfl, ?_⟩⟩
    obtain ⟨mn, rfl⟩ := Int.eq_ofNat_of_zero_le mn0
    have g8' := g7'.trans g8
    refine ⟨_, rfl, _, rfl, _, rfl, _, e, pl, mn, rfl, hue g8', he.text, by omega, by omega, fun H9 s9 => ?_⟩
    rw [hspe]
    refine ⟨_, rfl, _, rfl, _, rfl, _, rfl, _, rfl, _, _, rfl, rfl, _, rfl, tx ld, rfl, hls, ?_⟩
    rw [show (pl : Int) + (mn : Int) = ((pl + mn : Nat) : Int) by omega, cut_nn, Nat.add_sub_cancel_left]
    refine same_str (by rw [List.length_take, List.length_drop]; omega) (plain_take (plain_drop hpl _) _) fun H10 s10 => ⟨_, rfl, iteF ?_⟩
    have g10 := (g8'.same s9).same s10
    refine ⟨_, rfl, p, 5, rfl, g10.spr, by decide, by decide, fun H11 k g11 k0 k5 => ?_⟩
    obtain ⟨k, rfl⟩ := Int.eq_ofNat_of_zero_le k0
    obtain ⟨c, hc, hca⟩ : ∃ c, ([97, 98, 122, 121, 120] : List Nat)[k]? = some c ∧ alpha.contains c = true := by
      have : k = 0 ∨ k = 1 ∨ k = 2 ∨ k = 3 ∨ k = 4 := by omega
      rcases this with rfl | rfl | rfl | rfl | rfl
      · exact ⟨97, rfl, by decide⟩
      · exact ⟨98, rfl, by decide⟩
      · exact ⟨122, rfl, by decide⟩
      · exact ⟨121, rfl, by decide⟩
      · exact ⟨120, rfl, by decide⟩
    rw [k_abzyx]
    have g11' := g10.trans g11
    refine ix_tx (show ([97, 98, 122, 121, 120] : List Nat).length ≤ 1000000 by decide) (at_ofA (j := k) rfl hc) ?_
    refine ⟨_, rfl, _, rfl, _, _, rfl, rfl, p, _, rfl, g11'.spr, by omega, small300 (by omega) (by omega), fun H12 f1 g12 f10 f1l => ?_⟩
    obtain ⟨f1, rfl⟩ := Int.eq_ofNat_of_zero_le f10
    have g12' := g11'.trans g12
    refine ⟨_, rfl, by show 2 ≤ sizeLine; decide, fun l2 nl2 => ?_⟩
    have hl2 := g12'.spr.ne nl2
    have g13 := go_new (o := .lst [V.int (f1 : Int), V.int ((ld.length : Nat) : Int)]) g12' nl2
    refine ⟨_, rfl, p, 2, rfl, g13.spr, by decide, by decide, fun H13 k2 g13' k20 k2l => ?_⟩
    obtain ⟨fst, hfst, hfl⟩ : ∃ n : Nat, atI [V.int (f1 : Int), V.int ((ld.length : Nat) : Int)] k2 = some (.int (n : Int)) ∧ n ≤ ld.length := by
      have : k2 = 0 ∨ k2 = 1 := by omega
      rcases this with rfl | rfl
      · exact ⟨f1, rfl, by omega⟩
      · exact ⟨ld.length, rfl, Nat.le_refl _⟩
    have g14 := g13.trans g13'
    refine ix_lst (g13'.keep _ _ hl2 upd_same) hfst ?_
    refine ⟨_, rfl, _, rfl, _, rfl, _, e, c, fst, rfl, hue g14, he.text, hca, by omega, fun H14 s14 => ?_⟩
    rw [hspe]
    refine ⟨_, rfl, _, rfl, _, rfl, tx ld, rfl, hls, ?_⟩
    rw [cut__n]
    refine ⟨⟨_, rfl⟩, _, rfl, _, _, rfl, rfl, ?_⟩
    rw [count_tx]
    have hcl : (List.take fst ld).count c ≤ 1000 := Nat.le_trans List.count_le_length (by rw [List.length_take]; omega)
    refine same_int (Nat.lt_of_le_of_lt (show ((((List.take fst ld).count c : Nat) : Int)).natAbs ≤ 1000 by omega) (by decide)) fun H15 s15 => ⟨_, rfl, iteF ?_⟩
    have g15 := (g14.same s14).same s15
    refine lc_rng1 ?_
    walk_at "rd"
    refine ⟨_, rfl, _, rfl, by omega, by omega, fun D2 nD2 => ?_⟩
    rw [show ((ld.length : Nat) : Int).toNat = ld.length from rfl]
    have hD2p := g15.spr.ne nD2
    refine LcGo.range (fun i H' => Same H15 H' ∧ H' D2 = some (.lst ((posOf ld c i).map fun n : Nat => V.int (n : Int)))) ⟨same_upd nD2, upd_same⟩ ?_ ?_
    · rintro j H' hj ⟨s16, hD2⟩
      have hcj : ld[j]? = some ld[j] := List.getElem?_eq_getElem hj
      have hpl2 : (posOf ld c j).length ≤ j := by
        unfold posOf
        exact Nat.le_trans (List.length_filter_le _ _) (by rw [List.length_range]; exact Nat.le_refl _)
      walk_at "rd"
      refine ⟨rfl, _, rfl, _, rfl, ix_tx (by omega) (at_ofA (j := j) (by omega) hcj) ⟨_, rfl, rfl, _, rfl, ?_⟩⟩
      by_cases ec : ld[j] = c
      · rw [ec, decide_eq_true rfl]
        refine iteT ⟨_, rfl, _, hD2, ?_, same_mut s16 nD2, ?_⟩
        · rw [List.length_map]
          exact Nat.lt_of_le_of_lt (show (posOf ld c j).length ≤ 1000 by omega) (by decide)
        · rw [upd_same, posOf_succ, if_pos (by rw [hcj, ec]), List.map_append, Int.zero_add]
          rfl
      · rw [decide_eq_false (fun z => ec (by have := tx_inj (V.str.inj z); simpa using this))]
        refine iteF ⟨s16, ?_⟩
        rw [hD2, posOf_succ, if_neg (by rw [hcj]; exact fun z => ec (Option.some.inj z)), List.append_nil]
    rintro H16 ⟨s16, hD2⟩
    walk_at "rd"
    obtain ⟨hpl, hpn⟩ := posTo ld c ld.length (Nat.le_refl _)
    rw [List.take_length] at hpl
    have hple : (posOf ld c ld.length).length = ld.count c := hpl
    have hcle : ld.count c ≤ 1000 := Nat.le_trans List.count_le_length hldl
    have g16 := g15.same s16
    refine ⟨by show 2 ≤ sizeLine; decide, fun l3 nl3 => ⟨D2, l3, (posOf ld c ld.length).map fun n : Nat => V.int (n : Int), [.non, .non], rfl, rfl, ?_, upd_same, ?_, fun L nL => ?_⟩⟩
    · rw [upd_ne (ne_of_none hD2 nl3)]
      exact hD2
    · rw [List.length_map, hple]
      exact Nat.le_trans (show ld.count c + 2 ≤ 1002 by omega) (by decide)
    have g17 := go_new (o := .lst ((posOf ld c ld.length).map (fun n : Nat => V.int (n : Int)) ++ [V.non, V.non])) (go_new (o := .lst [V.non, V.non]) g16 nl3) nL
    have hLp := (go_new (o := .lst [V.non, V.non]) g16 nl3).spr.ne nL
    have kL := upd_same (H := upd H16 l3 (.lst [V.non, V.non])) (a := L) (o := .lst ((posOf ld c ld.length).map (fun n : Nat => V.int (n : Int)) ++ [V.non, V.non]))
    generalize hC : upd (upd H16 l3 (.lst [V.non, V.non])) L (.lst ((posOf ld c ld.length).map (fun n : Nat => V.int (n : Int)) ++ [V.non, V.non])) = C at *
    have hll : (((posOf ld c ld.length).map (fun n : Nat => V.int (n : Int)) ++ [V.non, V.non]).length : Int) = ((ld.count c + 2 : Nat) : Int) := by rw [List.length_append, List.length_map, hple]; rfl
    refine ⟨_, rfl, _, rfl, len_row (.inl (SqL.of kL)) ?_⟩
    rw [hll]
    refine ⟨p, _, rfl, g17.spr, by omega, small300 (by omega) (by omega), fun H17 nb g18 nb0 nbl => ?_⟩
    obtain ⟨nb, rfl⟩ := Int.eq_ofNat_of_zero_le nb0
    have g18' := g17.trans g18
    have kL2 := g18.keep _ _ hLp kL
    refine ⟨_, rfl, _, rfl, _, rfl, _, e, c, nb, rfl, hue g18', he.text, hca, fun H18 i2 s18 hin => ?_, fun H18 s18 hlt => ?_⟩
    · rw [hspe] at hin
      have hnb : nb < (posOf ld c ld.length).length := by
        rw [hple]
        have h1 : (ld.take (i2 + 1)).count c = nb + 1 := by
          rw [List.take_add_one, hin.1, List.count_append, hin.2]
          simp
        have h2 : (ld.take (i2 + 1)).count c ≤ ld.count c := (List.take_sublist _ _).count_le _
        omega
      have hgn : (posOf ld c ld.length)[nb]? = some (posOf ld c ld.length)[nb] := List.getElem?_eq_getElem hnb
      have hii := nth_uniq hin (hpn nb _ hgn)
      have hil := (List.getElem?_eq_some_iff.mp hin.1).1
      refine ⟨_, rfl, _, rfl, ix_row (.inl (SqL.of (s18 _ _ kL2))) (at_ofA (j := nb) rfl (by rw [List.getElem?_append_left (by rw [List.length_map]; exact hnb), List.getElem?_map, hgn]; rfl)) ?_⟩
      rw [← hii]
      refine same_int (Nat.lt_of_le_of_lt (show ((i2 : Nat) : Int).natAbs ≤ 1000 by omega) (by decide)) fun H19 s19 => ⟨_, rfl, iteF ?_⟩
      exact ⟨_, _, _, _, _, _, _, _, rfl, (g18'.same s18).same s19⟩
    · rw [hspe] at hlt
      refine ⟨_, rfl, _, rfl, ix_row (.inl (SqL.of (s18 _ _ kL2))) (x := .non) (at_ofA (j := nb) rfl ?_) ?_⟩
      · rw [List.getElem?_append_right (by rw [List.length_map, hple]; exact hlt), List.length_map, hple]
        have : nb - ld.count c = 0 ∨ nb - ld.count c = 1 := by omega
        rcases this with e | e <;> rw [e] <;> rfl
      · refine same_non fun H19 s19 => ⟨_, rfl, iteF ?_⟩
        exact ⟨_, _, _, _, _, _, _, _, rfl, (g18'.same s18).same s19⟩
  · rintro σ H4 ⟨y6, y7, y8, y9, y10, y11, y12, y13, rfl, g4⟩
    walk_at "rd"
    refine ⟨_, rfl, u, e, rfl, hue g4, nice_neat he, _, rfl, rfl, ?_⟩
    rw [decide_eq_true rfl]
    exact q _ g4

theorem HeldL.snoc {H : Hp} {h c : Addr} {ps : Pcs} {bs : List Addr} {x : List Nat × Nat} (hh : HeldL H h ps bs) (hc : H c = some (.lst [.str (tx x.1), .int (x.2 : Int)])) (hn : c ∉ h :: bs) : HeldL (upd H h (.lst ((bs ++ [c]).map V.ref))) h (ps ++ [x]) (bs ++ [c]) := by
  have hnd := List.nodup_cons.mp hh.nd
  have hch : c ≠ h := fun z => hn (by rw [z]; exact List.mem_cons_self ..)
  have hcb : c ∉ bs := fun z => hn (List.mem_cons_of_mem _ z)
  refine ⟨upd_same, by rw [List.length_append, List.length_append, hh.len]; rfl, List.nodup_cons.mpr ⟨fun z => ?_, List.nodup_append.mpr ⟨hnd.2, by simp, fun b hb1 c2 hc2 z => ?_⟩⟩, fun i b y hb hy => ?_⟩
  · rcases List.mem_append.mp z with z | z
    · exact hnd.1 z
    · have : h = c := by simpa using z
      exact hch this.symm
  · have : c2 = c := by simpa using hc2
    subst this
    subst z
    exact hcb hb1
  · have hbm := List.mem_of_getElem? hb
    have hbh : b ≠ h := fun z => by
      rw [z] at hbm
      rcases List.mem_append.mp hbm with z | z
      · exact hnd.1 z
      · have : h = c := by simpa using z
        exact hch this.symm
    rw [upd_ne hbh]
    by_cases hi : i < bs.length
    · rw [List.getElem?_append_left hi] at hb
      rw [List.getElem?_append_left (by rw [← hh.len]; exact hi)] at hy
      exact hh.it i b y hb hy
    · rw [List.getElem?_append_right (by omega)] at hb
      rw [List.getElem?_append_right (by rw [← hh.len]; omega)] at hy
      have h0 : i - bs.length = 0 := by
        have := (List.getElem?_eq_some_iff.mp hb).1
        simp at this
        omega
      rw [h0] at hb
      rw [← hh.len, h0] at hy
      have e1 : c = b := by simpa using hb
      have e2 : x = y := by simpa using hy
      subst e1 e2
      exact hc
theorem set_get {α : Type} {l : List α} {i j k : Nat} {x y z : α} (hi : i < l.length) (h : ((l.set i x).set 0 y)[k]? = some z) : (k = 0 ∧ z = y) ∨ (k ≠ 0 ∧ k = i ∧ z = x) ∨ (k ≠ 0 ∧ k ≠ i ∧ l[k]? = some z) := by
  have h0 : 0 < (l.set i x).length := by rw [List.length_set]; omega
  by_cases hk : k = 0
  · subst hk
    rw [List.getElem?_set_self h0] at h
    exact .inl ⟨rfl, (Option.some.inj h).symm⟩
  · rw [List.getElem?_set_ne (fun e => hk e.symm)] at h
    by_cases hki : k = i
    · subst hki
      rw [List.getElem?_set_self hi] at h
      exact .inr (.inl ⟨hk, rfl, (Option.some.inj h).symm⟩)
    · rw [List.getElem?_set_ne (fun e => hki e.symm)] at h
      exact .inr (.inr ⟨hk, hki, h⟩)
theorem HeldL.swap {H : Hp} {h : Addr} {ps : Pcs} {bs : List Addr} {c0 cl : Addr} {x0 xl : List Nat × Nat} {n : Nat} (hh : HeldL H h ps bs) (hn : bs.length = n + 1) (h1 : bs[0]? = some c0) (h2 : bs[n]? = some cl) (h3 : ps[0]? = some x0) (h4 : ps[n]? = some xl) :
    HeldL (upd H h (.lst (((bs.set n c0).set 0 cl).map V.ref))) h ((ps.set n x0).set 0 xl) ((bs.set n c0).set 0 cl) := by
  have hnd := List.nodup_cons.mp hh.nd
  have g1 := List.getElem?_eq_some_iff.mp h1
  have g2 := List.getElem?_eq_some_iff.mp h2
  have pm : ((bs.set n c0).set 0 cl).Perm bs := by
    have := List.set_set_perm (as := bs) (i := n) (j := 0) g2.1 g1.1
    rw [g1.2, g2.2] at this
    exact this
  refine ⟨upd_same, by simp [hh.len], List.nodup_cons.mpr ⟨fun z => hnd.1 (pm.mem_iff.mp z), pm.nodup_iff.mpr hnd.2⟩, fun i b y hb hy => ?_⟩
  have hbm := pm.mem_iff.mp (List.mem_of_getElem? hb)
  rw [upd_ne (fun z => hnd.1 (by rw [← z]; exact hbm))]
  rcases set_get (j := 0) (by omega) hb with ⟨e1, e2⟩ | ⟨e1, e2, e3⟩ | ⟨e1, e2, e3⟩
  · rcases set_get (j := 0) (by rw [← hh.len]; omega) hy with ⟨f1, f2⟩ | ⟨f1, f2, f3⟩ | ⟨f1, f2, f3⟩
    · subst e2 f2
      exact hh.it n _ _ h2 h4
    · exact absurd e1 f1
    · exact absurd e1 f1
  · rcases set_get (j := 0) (by rw [← hh.len]; omega) hy with ⟨f1, f2⟩ | ⟨f1, f2, f3⟩ | ⟨f1, f2, f3⟩
    · exact absurd f1 e1
    · subst e3 f3
      exact hh.it 0 _ _ h1 h3
    · exact absurd e2 f2
  · rcases set_get (j := 0) (by rw [← hh.len]; omega) hy with ⟨f1, f2⟩ | ⟨f1, f2, f3⟩ | ⟨f1, f2, f3⟩
    · exact absurd f1 e1
    · exact absurd f2 e2
    · exact hh.it i _ _ e3 f3
theorem okp_small2 {ps : Pcs} {m w t : Int} (hl : (ps.length : Int) ≤ m) (hm : m ≤ 40) (h : ∀ x ∈ ps, OkP w t x) (hw : w ≤ 60) (ht : t ≤ 100000) (hz : m * (w * t) ≤ 1000000) (hw0 : 0 ≤ w) (ht0 : 0 ≤ t) : Nice (dOf ps) ∧ (size ps : Int) ≤ m * (w * t) := by
  have key : ∀ qs : Pcs, (∀ x ∈ qs, OkP w t x) → (size qs : Int) ≤ qs.length * (w * t) := by
    intro qs
    induction qs with
    | nil => intro _; simp [size]
    | cons y qs ih =>
      intro hq
      obtain ⟨h1, h2, h3, h4, h5⟩ := hq y (List.mem_cons_self ..)
      have h6 := ih fun x hx => hq x (List.mem_cons_of_mem _ hx)
      have h7 : (y.1.length : Int) * (y.2 : Int) ≤ w * t := Int.mul_le_mul h3 h5 (by omega) hw0
      rw [size_cons, List.length_cons, Int.natCast_add, Int.natCast_mul, Int.natCast_add, Int.add_mul]
      show _ ≤ _ + ((1 : Nat) : Int) * (w * t)
      rw [show ((1 : Nat) : Int) = 1 from rfl, Int.one_mul]
      omega
  have h1 := key ps h
  have h0 : 0 ≤ w * t := Int.mul_nonneg hw0 ht0
  have h2 : (ps.length : Int) * (w * t) ≤ m * (w * t) := Int.mul_le_mul_of_nonneg_right hl h0
  refine ⟨nice_dOf (fun x hx => ?_) (by omega) (by omega), by omega⟩
  obtain ⟨k1, k2, k3, k4, k5⟩ := h x hx
  exact ⟨⟨k1, k2, by omega, k4⟩, by omega⟩
def spLaw (K : PySem.W.Frag) : Sp := fun vs H Q _ => ∃ (a : Addr) (ns : List Int), vs = [.ref a] ∧ SqL K H a (ns.map V.int) ∧ ns.length ≤ 63 ∧ ∀ H', Q (.bl true) H'
theorem ok_law (T : Txt K mg) : FnG P w K mg base CX0 9 T.f_law.f T.f_law.fd ["script"] (spLaw K) := by
  refine funG T.f_law.F sc_law (fun vs H Q E h => ?_) (fun cdv A outer s H vs Q E hg hr h => ?_)
  · obtain ⟨a, ns, rfl, _⟩ := h
    rfl
  obtain ⟨a, ns, rfl, hs, hlen, q⟩ := h
  refine ⟨_, (pss_cons (ps_set (i := 1) sc_law.nd rfl (.inl rfl) (pe_call (ok__law_spring T) (hr.mono (by decide)) (by rfl) T.f__law_spring.g T.f__law_spring.F.kp T.f__law_spring.b .nil pass0 (pa_cons (pv 0) pa_nil)))
      (pss_cons (ps_for PassesOwn.never rfl (pi_range1 (by rfl) T.b_range (pa_cons (pe_op op_add pe_int (pe_callB (call_min2 rfl) (by rfl) T.b_min (by decide +kernel) (pa_cons (pe_callB (call_lenK K) (by rfl) T.b_len (by decide +kernel) (pa_cons (pv 0) pa_nil)) (pa_cons pe_int pa_nil)))) pa_nil)) (pg_name (i := 2) sc_law.nd rfl (.inl rfl))
        (pss_cons (ps_set (i := 3) sc_law.nd rfl (.inl rfl) (pe_call (ok__law_text T) (hr.mono (by decide)) (by rfl) T.f__law_text.g T.f__law_text.F.kp T.f__law_text.b .nil pass0 (pa_cons (pv 1) (pa_cons pe_int (pa_cons pe_int (pa_cons pe_int pa_nil))))))
      (pss_cons (ps_if (pt_not (pt_val (pe_callG (ok__law_right T) hg (hr.mono (by decide)) (by rfl) T.f__law_right.g T.f__law_right.F.kp T.f__law_right.b .nil pass0 (pa_cons (pv 1) (pa_cons (pv 3) (pa_cons (pe_call (ok__law_handed T) (hr.mono (by decide)) (by rfl) T.f__law_handed.g T.f__law_handed.F.kp T.f__law_handed.b .nil pass0 (pa_cons (pv 1) (pa_cons (pv 3) pa_nil))) pa_nil)))))) (pss_one (ps_ret pe_bl)) pss_nil)
      (pss_cons (ps_set (i := 4) sc_law.nd rfl (.inl rfl) (pe_call (ok__law_lists T 3) (hr.mono (by first | decide | omega)) (by rfl) T.f__law_lists.g T.f__law_lists.F.kp T.f__law_lists.b .nil pass0 (pa_cons (pv 3) pa_nil)))
      (pss_one (ps_for PassesOwn.never rfl (pi_range1 (by rfl) T.b_range (pa_cons pe_int pa_nil)) (pg_name (i := 5) sc_law.nd rfl (.inl rfl))
        (pss_cons (ps_if (pt_not (pt_val (pe_callG (ok__law_right T) hg (hr.mono (by decide)) (by rfl) T.f__law_right.g T.f__law_right.F.kp T.f__law_right.b .nil pass0 (pa_cons (pv 1) (pa_cons (pv 3) (pa_cons (pv 4) pa_nil)))))) (pss_one (ps_ret pe_bl)) pss_nil)
      (pss_cons (ps_expr (pe_bm PySem.F.plainAttrs_list PySem.F.slot_list_append PySem.F.type_list_append mt_append (pv 4) (pa_cons (pe_lst (pa_cons (pe_call (ok__law_word T) (hr.mono (by decide)) (by rfl) T.f__law_word.g T.f__law_word.F.kp T.f__law_word.b .nil pass0 (pa_cons (pv 1) (pa_cons pe_int pa_nil))) (pa_cons (pe_op op_add pe_int (pe_call (ok__law_draw T) (hr.mono (by decide)) (by rfl) T.f__law_draw.g T.f__law_draw.F.kp T.f__law_draw.b .nil pass0 (pa_cons (pv 1) (pa_cons pe_int pa_nil)))) pa_nil))) pa_nil)))
      (pss_cons (ps_asg (pe_op op_add (pe_op op_mod (pe_ix ix_seq (pe_ix ix_seq (pv 4) pe_int (fun _ _ => rfl)) pe_int (fun _ _ => rfl)) pe_int) pe_int) (pg_sub (pe_ix ix_seq (pv 4) pe_int (fun _ _ => rfl)) pe_int set_list))
      (pss_cons (ps_asg (pe_tup (pa_cons (pe_ix ix_seq (pv 4) pe_int (fun _ _ => rfl)) (pa_cons (pe_ix ix_seq (pv 4) (pe_un un_neg pe_int) (fun _ _ => rfl)) pa_nil))) (pg_tup rfl (pgs_cons (pg_sub (pv 4) (pe_un un_neg pe_int) set_list) (pgs_cons (pg_sub (pv 4) pe_int set_list) pgs_nil))))
      (pss_one (ps_setLc (i := 3) (own := [("word", 6), ("times", 7)]) rfl sc_law.nd rfl rfl (sw_true rfl rfl rfl (by decide +kernel)) (pi_list (pv 4)) (blkOk_by (own := [("word", 6), ("times", 7)]) (N := N_law) (sc := defScope s_law) (by decide +kernel)) (fun _ _ _ _ _ => (pg_seqK (n := 2) K rfl (pgs_cons (pg_name (i := 6) sc_law.nd rfl (.inl rfl)) (pgs_cons (pg_name (i := 7) sc_law.nd rfl (.inl rfl)) pgs_nil)))) (fun _ _ _ _ _ => pts_nil) (fun _ _ _ _ _ => (pe_tup (pa_cons (pv 6) (pa_cons (pv 7) pa_nil))))))))))))))))
      (pss_one (ps_ret pe_bl)))), ?_⟩
  walk_at "rd"
  refine ⟨_, rfl, a, ns, rfl, hs, hlen, fun H1 p s1 fp spr => ?_⟩
  refine fr_rng1 ?_
  walk_at "rd"
  refine ⟨_, rfl, len_row (.inl (s1.seq hs)) ⟨_, _, rfl, ?_⟩⟩
  refine ⟨_, _, rfl, rfl, _, rfl, by split <;> omega, by split <;> omega, ForGo.range
    (fun i σ H2 => ∃ y2 y3 y4 y5 y6 y7, σ = [some (.ref a), some (.ref p), y2, y3, y4, y5, y6, y7] ∧ Go p H1 H2)
    ⟨_, _, _, _, _, _, rfl, Go.refl spr⟩ ?_ ?_⟩
  · rintro i σ H2 hi ⟨y2, y3, y4, y5, y6, y7, rfl, g2⟩
    walk_at "rd"
    refine ⟨_, rfl, p, 6, 9, 5, rfl, g2.spr, by decide, by decide, by decide, by decide, by decide, by decide, fun H3 t ps g3 nt htx hpl hok => ?_⟩
    obtain ⟨hni, hsz⟩ := okp_small2 hpl (by decide) hok (by decide) (by decide) (by decide) (by decide) (by decide)
    have g13 := g2.trans g3
    have h60 : ∀ x ∈ ps, x.1.length ≤ 60 := fun x hx => by have := (hok x hx).2.2.1; omega
    have hat3 : At K (hid p H3) (.ref t) (dOf ps) := htx.hid.at h60
    refine ⟨_, rfl, _, rfl, _, rfl, _, rfl, hnd_of g13.spr hat3 hni fun H4 u e g4 hu hne hpe => ?_⟩
    rw [pcs_dOf] at hpe
    obtain ⟨ua, uxs, rfl, _, _⟩ := at_row hu hne.row
    refine ⟨p, .ref t, ua, dOf ps, e, rfl, g4.spr, At.same g4.hid _ _ hat3, hu, hni, hne, by rw [hpe, pcs_dOf], by rw [pcs_dOf]; omega, fun H5 g5 => ⟨_, rfl, iteF ?_⟩⟩
    have g45 := g4.trans g5
    have g15 := g13.trans g45
    have htx5 := htx.go g45
    refine ⟨_, rfl, .ref t, dOf ps, rfl, htx5.at h60, by have := hni.deep; omega, hni.fits, by have := hni.bulk; omega, fun H6 u2 fpp s6 hu2 hnd hfr => ?_⟩
    rw [norm_dOf] at hu2
    obtain ⟨h, bs, rfl, hh, rfl⟩ := held_of hu2 hnd
    have g16 := g15.same s6
    have hpn : p ∉ h :: bs := fun z => g15.spr.some (hfr p z)
    refine fr_rng1 ?_
    walk_at "rd"
    refine ⟨3, rfl, by decide, by decide, ForGo.range
      (fun i σ H' => ∃ y2 y5 y6 y7 t qs cs, σ = [some (.ref a), some (.ref p), y2, some (.ref t), some (.ref h), y5, y6, y7] ∧ Go p H5 H' ∧ TxtL p H' t qs ∧ HeldL H' h qs cs ∧ (∀ b ∈ h :: cs, H5 b = none) ∧ (∀ x ∈ qs, OkP 9 5 x) ∧ qs.length = ps.length + i)
      ⟨_, _, _, _, t, ps, bs, rfl, .of_same g15.spr s6, htx5.go (.of_same g15.spr s6), hh, hfr, hok, rfl⟩ ?_ ?_⟩
    · rintro j σ H7 hj ⟨z2, z5, z6, z7, t1, qs, cs, rfl, g7, htq, hq, hfr7, hokq, hql⟩
      have hj3 : j < 3 := hj
      obtain ⟨hniq, hszq⟩ := okp_small2 (m := 9) (by omega) (by decide) hokq (by decide) (by decide) (by decide) (by decide) (by decide)
      have h60q : ∀ x ∈ qs, x.1.length ≤ 60 := fun x hx => by have := (hokq x hx).2.2.1; omega
      have hp7 : p ∉ h :: cs := fun z => g15.spr.some (hfr7 p z)
      have hhid : HeldL (hid p H7) h qs cs := hq.same fun b o hb e => by
        rw [hid_ne (fun z => hp7 (by rw [← z]; exact hb))]
        exact e
      walk_at "rd"
      refine ⟨_, rfl, _, rfl, _, rfl, p, .ref t1, h, dOf qs, dOL qs, rfl, g7.spr, htq.hid.at h60q, hhid.at h60q, hniq, hniq.dOL, by rw [pcs_dOL, pcs_dOf], by rw [pcs_dOf]; omega, fun H8 g8 => ⟨_, rfl, iteF ?_⟩⟩
      have hq8 := hq.go g8 hp7
      have g8' := g7.trans g8
      refine ⟨_, rfl, .inl ⟨rfl, _, SqL.of hq8.top⟩, _, rfl, p, 5, rfl, g8'.spr, by decide, by decide, fun H9 y g9 hy hyl hyp => ?_⟩
      have hq9 := hq8.go g9 hp7
      have g9' := g8'.trans g9
      refine ⟨_, rfl, p, 4, rfl, g9'.spr, by decide, by decide, fun H10 r g10 r0 r4 => ⟨_, _, rfl, rfl, by show 2 ≤ sizeLine; decide, fun c nc => ?_⟩⟩
      obtain ⟨r, rfl⟩ := Int.eq_ofNat_of_zero_le r0
      have hq10 := hq9.go g10 hp7
      have g10' := g9'.trans g10
      have er : (1 : Int) + (r : Int) = ((1 + r : Nat) : Int) := by omega
      walk_at "rd"
      rw [er]
      have sc := same_upd (o := .lst [V.str (tx y), V.int ((1 + r : Nat) : Int)]) nc
      have kc := upd_same (H := H10) (a := c) (o := .lst [V.str (tx y), V.int ((1 + r : Nat) : Int)])
      have hcn : c ∉ h :: cs := fun z => by
        obtain ⟨o, ho⟩ := hq10.trk c z
        rw [nc] at ho
        cases ho
      have hq11 := (hq10.same fun b o _ e => sc _ _ e).snoc (x := (y, 1 + r)) kc hcn
      have hhn : H5 h = none := hfr7 h (List.mem_cons_self ..)
      have hhp : h ≠ p := fun z => hp7 (by rw [← z]; exact List.mem_cons_self ..)
      have hc5 : H5 c = none := by
        cases e : H5 c with
        | none => rfl
        | some o =>
          have : c ≠ p := g10'.spr.ne nc
          have := g10'.keep _ _ this e
          rw [nc] at this
          cases this
      have g11 := go_mut (x := .lst ((cs ++ [c]).map V.ref)) (g10'.same sc) hhn hhp
      refine ⟨h, cs.map V.ref, _, rfl, rfl, sc _ _ hq10.top, ?_, ?_⟩
      · rw [List.length_map, hq10.len]
        exact Nat.lt_of_le_of_lt (show qs.length ≤ 9 by omega) (by decide)
      rw [show cs.map V.ref ++ [V.ref c] = (cs ++ [c]).map V.ref by rw [List.map_append]; rfl]
      generalize hD : upd (upd H10 c (.lst [V.str (tx y), V.int ((1 + r : Nat) : Int)])) h (.lst ((cs ++ [c]).map V.ref)) = D at *
      have hokq' : ∀ x ∈ qs ++ [(y, 1 + r)], OkP 9 5 x := fun x hx => by
        rcases List.mem_append.mp hx with hx | hx
        · exact hokq x hx
        · have : x = (y, 1 + r) := by simpa using hx
          subst this
          exact ⟨hyp, hy, by show (y.length : Int) ≤ 9; omega, by show 1 ≤ 1 + r; omega, by show ((1 + r : Nat) : Int) ≤ 5; omega⟩
      have hfr8 : ∀ b ∈ h :: (cs ++ [c]), H5 b = none := fun b hb => by
        rcases List.mem_cons.mp hb with rfl | hb
        · exact hhn
        · rcases List.mem_append.mp hb with hb | hb
          · exact hfr7 b (List.mem_cons_of_mem _ hb)
          · have : b = c := by simpa using hb
            subst this
            exact hc5
      generalize hcs : cs ++ [c] = ds at *
      generalize hqs : qs ++ [(y, 1 + r)] = rs at *
      have hrl : rs.length = qs.length + 1 := by rw [← hqs, List.length_append]; rfl
      have hdl : ds.length = rs.length := hq11.len
      have hx0 : rs[0]? = some rs[0] := List.getElem?_eq_getElem (by omega)
      have hb0 : ds[0]? = some ds[0] := List.getElem?_eq_getElem (by omega)
      have hb0n : H5 ds[0] = none := hfr8 _ (List.mem_cons_of_mem _ (List.mem_of_getElem? hb0))
      have hb0p : ds[0] ≠ p := fun z => g15.spr.some (by rw [← z]; exact hb0n)
      refine ⟨_, rfl, ix_lst hq11.top (at_ofA (j := 0) rfl (by rw [List.getElem?_map, hb0]; rfl)) (ix_lst (hq11.it 0 _ _ hb0 hx0) (at_ofA (j := 1) rfl rfl) ?_)⟩
      refine ⟨_, _, rfl, rfl, (show (0 : Int) < 5 by decide), _, _, rfl, rfl, ?_⟩
      have em : ((rs[0].2 : Nat) : Int) % (5 : Int) + (1 : Int) = ((rs[0].2 % 5 + 1 : Nat) : Int) := by omega
      refine ⟨_, rfl, ix_lst hq11.top (at_ofA (j := 0) rfl (by rw [List.getElem?_map, hb0]; rfl)) ?_⟩
      refine ⟨ds[0], _, 1, 1, rfl, rfl, hq11.it 0 _ _ hb0 hx0, rfl, ?_⟩
      have hq12 := hq11.put (x := (rs[0].1, rs[0].2 % 5 + 1)) hb0
      have g12 := go_mut (x := .lst [V.str (tx rs[0].1), V.int ((rs[0].2 % 5 + 1 : Nat) : Int)]) g11 hb0n hb0p
      walk_at "rd"
      rw [show [V.str (tx rs[0].1), V.int ((rs[0].2 : Nat) : Int)].set 1 (V.int (((rs[0].2 : Nat) : Int) % (5 : Int) + (1 : Int))) = [V.str (tx rs[0].1), V.int ((rs[0].2 % 5 + 1 : Nat) : Int)] by rw [em]; rfl]
      generalize hE : upd D ds[0] (.lst [V.str (tx rs[0].1), V.int ((rs[0].2 % 5 + 1 : Nat) : Int)]) = E at *
      have hokq2 : ∀ x ∈ rs.set 0 (rs[0].1, rs[0].2 % 5 + 1), OkP 9 5 x := fun x hx => by
        rcases List.mem_or_eq_of_mem_set hx with hx | rfl
        · exact hokq' x hx
        · have ho := hokq' _ (List.mem_of_getElem? hx0)
          exact ⟨ho.1, ho.2.1, ho.2.2.1, by show 1 ≤ rs[0].2 % 5 + 1; omega, by show ((rs[0].2 % 5 + 1 : Nat) : Int) ≤ 5; omega⟩
      generalize hrs2 : rs.set 0 (rs[0].1, rs[0].2 % 5 + 1) = rs2 at *
      have hr2l : rs2.length = rs.length := by rw [← hrs2, List.length_set]
      have hy0 : rs2[0]? = some rs2[0] := List.getElem?_eq_getElem (by omega)
      have hyn : rs2[rs.length - 1]? = some rs2[rs.length - 1] := List.getElem?_eq_getElem (by omega)
      have hbn : ds[rs.length - 1]? = some ds[rs.length - 1] := List.getElem?_eq_getElem (by omega)
      have hlast : atI (ds.map V.ref) (-1) = some (V.ref ds[rs.length - 1]) := by
        have hd : ds = ds.dropLast ++ [ds[rs.length - 1]] := by
          have hne : ds ≠ [] := by
            intro z
            rw [z] at hdl
            simp at hdl
            omega
          have := List.dropLast_concat_getLast hne
          rw [List.getLast_eq_getElem] at this
          have e : ds.length - 1 = rs.length - 1 := by omega
          simp only [e] at this
          exact this.symm
        have e2 : ds.map V.ref = ds.dropLast.map V.ref ++ [V.ref ds[rs.length - 1]] := by
          conv => lhs; rw [hd]
          rw [List.map_append]
          rfl
        rw [e2]
        exact atI_last _ _
      refine ⟨_, rfl, ix_lst hq12.top (at_ofA (j := 0) rfl (by rw [List.getElem?_map, hb0]; rfl)) ⟨_, rfl, _, rfl, ix_lst hq12.top hlast ⟨by show 2 ≤ sizeLine; decide, fun tt ntt => ?_⟩⟩⟩
      refine ⟨tt, _, rfl, SqT.of upd_same, rfl, _, _, rfl, ?_⟩
      have sE := same_upd (o := .tup [V.ref ds[0], V.ref ds[rs.length - 1]]) ntt
      have hq13 := hq12.same fun b o _ e => sE _ _ e
      have g13' := g12.same sE
      generalize hF : upd E tt (.tup [V.ref ds[0], V.ref ds[rs.length - 1]]) = F at *
      have hix : ixN (ds.map V.ref).length (-1) = some (rs.length - 1) := by
        rw [List.length_map, hdl]
        unfold ixN
        rw [if_neg (by omega), if_pos (by omega)]
        congr 1
        omega
      have hix0 : ixN ((ds.map V.ref).set (rs.length - 1) (V.ref ds[0])).length 0 = some 0 := by
        rw [List.length_set, List.length_map, hdl]
        unfold ixN
        rw [if_pos (Int.le_refl 0), if_pos (by omega)]
        rfl
      refine ⟨_, rfl, _, rfl, h, _, -1, _, rfl, rfl, hq13.top, hix, _, _, rfl, _, rfl, h, _, 0, 0, rfl, rfl, upd_same, hix0, rfl, ?_⟩
      rw [upd_upd]
      have hsw := hq13.swap (n := rs.length - 1) (by omega) hb0 hbn hy0 hyn
      rw [List.map_set, List.map_set] at hsw
      have g14 := go_mut (x := .lst (((ds.map V.ref).set (rs.length - 1) (V.ref ds[0])).set 0 (V.ref ds[rs.length - 1]))) g13' hhn hhp
      generalize hG : upd F h (.lst (((ds.map V.ref).set (rs.length - 1) (V.ref ds[0])).set 0 (V.ref ds[rs.length - 1]))) = G at *
      have hfr9 : ∀ b ∈ h :: ((ds.set (rs.length - 1) ds[0]).set 0 ds[rs.length - 1]), H5 b = none := fun b hb => by
        rcases List.mem_cons.mp hb with rfl | hb
        · exact hhn
        · rcases List.mem_or_eq_of_mem_set hb with hb | rfl
          · rcases List.mem_or_eq_of_mem_set hb with hb | rfl
            · exact hfr8 _ (List.mem_cons_of_mem _ hb)
            · exact hb0n
          · exact hfr8 _ (List.mem_cons_of_mem _ (List.mem_of_getElem? hbn))
      have hokq9 : ∀ x ∈ (rs2.set (rs.length - 1) rs2[0]).set 0 rs2[rs.length - 1], OkP 9 5 x := fun x hx => by
        rcases List.mem_or_eq_of_mem_set hx with hx | rfl
        · rcases List.mem_or_eq_of_mem_set hx with hx | rfl
          · exact hokq2 _ hx
          · exact hokq2 _ (List.mem_of_getElem? hy0)
        · exact hokq2 _ (List.mem_of_getElem? hyn)
      have hzl : ((rs2.set (rs.length - 1) rs2[0]).set 0 rs2[rs.length - 1]).length = ps.length + (j + 1) := by
        rw [List.length_set, List.length_set]
        omega
      obtain ⟨zs, es, hsw, hfr9, hokq9, hzl⟩ : ∃ zs es, HeldL G h zs es ∧ (∀ b ∈ h :: es, H5 b = none) ∧ (∀ x ∈ zs, OkP 9 5 x) ∧ zs.length = ps.length + (j + 1) := ⟨_, _, hsw, hfr9, hokq9, hzl⟩
      refine lc_lst ?_
      walk_at "rd"
      refine ⟨_, rfl, h, rfl, ⟨_, SqL.of hsw.top⟩, fun D2 nD2 => ?_⟩
      have hD2p := g14.spr.ne nD2
      refine LcGo.list (a := h) (xs := es.map V.ref) (fun i H' => Same G H' ∧ ∃ us, H' D2 = some (.lst us) ∧ Paired (PcT p H') us (zs.take i))
        ⟨same_upd nD2, [], upd_same, by rw [List.take_zero]; exact .nil⟩ (fun i H' _ k => SqL.of (k.1 _ _ hsw.top)) ?_ ?_
      · rintro k x H' hx ⟨sG, us, hD2, hus⟩
        rw [List.getElem?_map] at hx
        obtain ⟨b, hb, rfl⟩ : ∃ b, es[k]? = some b ∧ V.ref b = x := by
          cases e : es[k]? with
          | none => rw [e] at hx; cases hx
          | some b => rw [e] at hx; exact ⟨b, rfl, Option.some.inj hx⟩
        have hkl := (List.getElem?_eq_some_iff.mp hb).1
        have hkz : k < zs.length := by rw [← hsw.len]; exact hkl
        have hzk : zs[k]? = some zs[k] := List.getElem?_eq_getElem hkz
        have hbk := sG _ _ (hsw.it k _ _ hb hzk)
        have hul := prd_len hus
        rw [List.length_take] at hul
        refine gSeq.row (.inl (SqL.of hbk)) rfl ?_
        walk_at "rd"
        refine ⟨_, _, rfl, _, _, rfl, rfl, rfl, ?_⟩
        refine ⟨_, rfl, _, rfl, by show 2 ≤ sizeLine; decide, fun t2 nt2 => ⟨us, ?_, ?_, ?_⟩⟩
        · rw [upd_ne (ne_of_none hD2 nt2)]
          exact hD2
        · exact Nat.lt_of_le_of_lt (show us.length ≤ 9 by omega) (by decide)
        have st := same_upd (o := .tup [V.str (tx zs[k].1), V.int ((zs[k].2 : Nat) : Int)]) nt2
        have hD3 := st _ _ hD2
        have hgG : Go p G H' := .of_same g14.spr sG
        refine ⟨same_mut (sG.trans st) nD2, us ++ [.ref t2], upd_same, ?_⟩
        rw [List.take_add_one, hzk]
        exact prd_snoc (prd_same (fun _ _ z => PcT.upd hD3 (PcT.go (.of_same hgG.spr st) z)) hus) (PcT.upd hD3 ⟨t2, rfl, hgG.spr.ne nt2, upd_same⟩)
      · rintro H' ⟨sG, us, hD2, hus⟩
        rw [List.take_of_length_le (by rw [List.length_map, hsw.len]; exact Nat.le_refl _)] at hus
        exact ⟨_, _, _, _, D2, zs, es, rfl, g14.same sG, ⟨hD2p, us, hD2, hus⟩, hsw.same fun b o _ e => sG _ _ e, hfr9, hokq9, hzl⟩
    · rintro σ H7 ⟨z2, z5, z6, z7, t1, qs, cs, rfl, g7, _⟩
      exact ⟨_, _, _, _, _, _, rfl, g15.trans g7⟩
  · rintro σ H2 ⟨y2, y3, y4, y5, y6, y7, rfl, g2⟩
    walk_at "rd"
    exact q _

end
theorem all_mk {l : PySem.W.OpenLaw} {w : World} {K : PySem.W.Frag} {h : Heap} {mg : Str → Option Value} {fa : Addr} (X : K.In h) (G : h.Ns mainGlobals mg) (hfa : mg "law" = some (.ref fa))
    {f0 : Addr} {od0 an0 : Option Addr} {sl0 : Array (Option Value)} {oc0 dc0 pm0 cd0 ct0 : Value} {kV0 : Value}
    {f1 : Addr} {od1 an1 : Option Addr} {sl1 : Array (Option Value)} {oc1 dc1 pm1 cd1 ct1 : Value} {kV1 : Value}
    {f2 : Addr} {od2 an2 : Option Addr} {sl2 : Array (Option Value)} {oc2 dc2 pm2 cd2 ct2 : Value} {kV2 : Value}
    {f3 : Addr} {od3 an3 : Option Addr} {sl3 : Array (Option Value)} {oc3 dc3 pm3 cd3 ct3 : Value} {kV3 : Value}
    {f4 : Addr} {od4 an4 : Option Addr} {sl4 : Array (Option Value)} {oc4 dc4 pm4 cd4 ct4 : Value} {kV4 : Value}
    {f5 : Addr} {od5 an5 : Option Addr} {sl5 : Array (Option Value)} {oc5 dc5 pm5 cd5 ct5 : Value} {kV5 : Value}
    {f6 : Addr} {od6 an6 : Option Addr} {sl6 : Array (Option Value)} {oc6 dc6 pm6 cd6 ct6 : Value} {kV6 : Value}
    {f7 : Addr} {od7 an7 : Option Addr} {sl7 : Array (Option Value)} {oc7 dc7 pm7 cd7 ct7 : Value} {kV7 : Value}
    {f8 : Addr} {od8 an8 : Option Addr} {sl8 : Array (Option Value)} {oc8 dc8 pm8 cd8 ct8 : Value} {kV8 : Value}
    {f9 : Addr} {od9 an9 : Option Addr} {sl9 : Array (Option Value)} {oc9 dc9 pm9 cd9 ct9 : Value} {kV9 : Value}
    {f10 : Addr} {od10 an10 : Option Addr} {sl10 : Array (Option Value)} {oc10 dc10 pm10 cd10 ct10 : Value} {kV10 : Value}
    {f11 : Addr} {od11 an11 : Option Addr} {sl11 : Array (Option Value)} {oc11 dc11 pm11 cd11 ct11 : Value} {kV11 : Value}
    {f12 : Addr} {od12 an12 : Option Addr} {sl12 : Array (Option Value)} {oc12 dc12 pm12 cd12 ct12 : Value} {kV12 : Value}
    {f13 : Addr} {od13 an13 : Option Addr} {sl13 : Array (Option Value)} {oc13 dc13 pm13 cd13 ct13 : Value} {kV13 : Value}
    {f14 : Addr} {od14 an14 : Option Addr} {sl14 : Array (Option Value)} {oc14 dc14 pm14 cd14 ct14 : Value} {kV14 : Value}
    {f15 : Addr} {od15 an15 : Option Addr} {sl15 : Array (Option Value)} {oc15 dc15 pm15 cd15 ct15 : Value} {kV15 : Value}
    {f16 : Addr} {od16 an16 : Option Addr} {sl16 : Array (Option Value)} {oc16 dc16 pm16 cd16 ct16 : Value} {kV16 : Value}
    {f17 : Addr} {od17 an17 : Option Addr} {sl17 : Array (Option Value)} {oc17 dc17 pm17 cd17 ct17 : Value} {kV17 : Value}
    {f18 : Addr} {od18 an18 : Option Addr} {sl18 : Array (Option Value)} {oc18 dc18 pm18 cd18 ct18 : Value} {kV18 : Value}
    {f19 : Addr} {od19 an19 : Option Addr} {sl19 : Array (Option Value)} {oc19 dc19 pm19 cd19 ct19 : Value} {kV19 : Value}
    {f20 : Addr} {od20 an20 : Option Addr} {sl20 : Array (Option Value)} {oc20 dc20 pm20 cd20 ct20 : Value} {kV20 : Value}
    {f21 : Addr} {od21 an21 : Option Addr} {sl21 : Array (Option Value)} {oc21 dc21 pm21 cd21 ct21 : Value} {kV21 : Value}
    {f22 : Addr} {od22 an22 : Option Addr} {sl22 : Array (Option Value)} {oc22 dc22 pm22 cd22 ct22 : Value} {kV22 : Value}
    {f23 : Addr} {od23 an23 : Option Addr} {sl23 : Array (Option Value)} {oc23 dc23 pm23 cd23 ct23 : Value} {kV23 : Value}
    {f24 : Addr} {od24 an24 : Option Addr} {sl24 : Array (Option Value)} {oc24 dc24 pm24 cd24 ct24 : Value} {kV24 : Value}
    {f25 : Addr} {od25 an25 : Option Addr} {sl25 : Array (Option Value)} {oc25 dc25 pm25 cd25 ct25 : Value} {kV25 : Value}
    {f26 : Addr} {od26 an26 : Option Addr} {sl26 : Array (Option Value)} {oc26 dc26 pm26 cd26 ct26 : Value} {kV26 : Value}
    {f27 : Addr} {od27 an27 : Option Addr} {sl27 : Array (Option Value)} {oc27 dc27 pm27 cd27 ct27 : Value} {kV27 : Value}
    {f28 : Addr} {od28 an28 : Option Addr} {sl28 : Array (Option Value)} {oc28 dc28 pm28 cd28 ct28 : Value} {kV28 : Value}
    {f29 : Addr} {od29 an29 : Option Addr} {sl29 : Array (Option Value)} {oc29 dc29 pm29 cd29 ct29 : Value} {kV29 : Value}
    {f30 : Addr} {od30 an30 : Option Addr} {sl30 : Array (Option Value)} {oc30 dc30 pm30 cd30 ct30 : Value} {kV30 : Value}
    {t_ALPHABET : Tok}
    {t_LONGEST_LOOK : Tok}
    {t_LONGEST_WORD : Tok}
    {t_MOST_LETTERS : Tok}
    {t_MOST_PIECES : Tok}
    (a0 : PySem.W.nsIn K mainGlobals "is_row" = some (some (.ref f0))) (l0 : K.lookup f0 = some ⟨oc0, od0, .func (PySem.W.fnOf "is_row" "is_row" (defArgs s_is_row) (defBody s_is_row) (defScope s_is_row) .none kV0 dc0 pm0 an0 cd0 ct0), sl0⟩) (c0 : PySem.W.codeIn K cd0 "is_row" = true) (k0 : PySem.W.keepIn K (.ref f0) = true)
    (a1 : PySem.W.nsIn K mainGlobals "is_whole" = some (some (.ref f1))) (l1 : K.lookup f1 = some ⟨oc1, od1, .func (PySem.W.fnOf "is_whole" "is_whole" (defArgs s_is_whole) (defBody s_is_whole) (defScope s_is_whole) .none kV1 dc1 pm1 an1 cd1 ct1), sl1⟩) (c1 : PySem.W.codeIn K cd1 "is_whole" = true) (k1 : PySem.W.keepIn K (.ref f1) = true)
    (a2 : PySem.W.nsIn K mainGlobals "is_within" = some (some (.ref f2))) (l2 : K.lookup f2 = some ⟨oc2, od2, .func (PySem.W.fnOf "is_within" "is_within" (defArgs s_is_within) (defBody s_is_within) (defScope s_is_within) .none kV2 dc2 pm2 an2 cd2 ct2), sl2⟩) (c2 : PySem.W.codeIn K cd2 "is_within" = true) (k2 : PySem.W.keepIn K (.ref f2) = true)
    (a3 : PySem.W.nsIn K mainGlobals "is_plain" = some (some (.ref f3))) (l3 : K.lookup f3 = some ⟨oc3, od3, .func (PySem.W.fnOf "is_plain" "is_plain" (defArgs s_is_plain) (defBody s_is_plain) (defScope s_is_plain) .none kV3 dc3 pm3 an3 cd3 ct3), sl3⟩) (c3 : PySem.W.codeIn K cd3 "is_plain" = true) (k3 : PySem.W.keepIn K (.ref f3) = true)
    (a4 : PySem.W.nsIn K mainGlobals "is_letter" = some (some (.ref f4))) (l4 : K.lookup f4 = some ⟨oc4, od4, .func (PySem.W.fnOf "is_letter" "is_letter" (defArgs s_is_letter) (defBody s_is_letter) (defScope s_is_letter) .none kV4 dc4 pm4 an4 cd4 ct4), sl4⟩) (c4 : PySem.W.codeIn K cd4 "is_letter" = true) (k4 : PySem.W.keepIn K (.ref f4) = true)
    (a5 : PySem.W.nsIn K mainGlobals "is_clip" = some (some (.ref f5))) (l5 : K.lookup f5 = some ⟨oc5, od5, .func (PySem.W.fnOf "is_clip" "is_clip" (defArgs s_is_clip) (defBody s_is_clip) (defScope s_is_clip) .none kV5 dc5 pm5 an5 cd5 ct5), sl5⟩) (c5 : PySem.W.codeIn K cd5 "is_clip" = true) (k5 : PySem.W.keepIn K (.ref f5) = true)
    (a6 : PySem.W.nsIn K mainGlobals "is_word" = some (some (.ref f6))) (l6 : K.lookup f6 = some ⟨oc6, od6, .func (PySem.W.fnOf "is_word" "is_word" (defArgs s_is_word) (defBody s_is_word) (defScope s_is_word) .none kV6 dc6 pm6 an6 cd6 ct6), sl6⟩) (c6 : PySem.W.codeIn K cd6 "is_word" = true) (k6 : PySem.W.keepIn K (.ref f6) = true)
    (a7 : PySem.W.nsIn K mainGlobals "is_piece" = some (some (.ref f7))) (l7 : K.lookup f7 = some ⟨oc7, od7, .func (PySem.W.fnOf "is_piece" "is_piece" (defArgs s_is_piece) (defBody s_is_piece) (defScope s_is_piece) .none kV7 dc7 pm7 an7 cd7 ct7), sl7⟩) (c7 : PySem.W.codeIn K cd7 "is_piece" = true) (k7 : PySem.W.keepIn K (.ref f7) = true)
    (a8 : PySem.W.nsIn K mainGlobals "is_text" = some (some (.ref f8))) (l8 : K.lookup f8 = some ⟨oc8, od8, .func (PySem.W.fnOf "is_text" "is_text" (defArgs s_is_text) (defBody s_is_text) (defScope s_is_text) .none kV8 dc8 pm8 an8 cd8 ct8), sl8⟩) (c8 : PySem.W.codeIn K cd8 "is_text" = true) (k8 : PySem.W.keepIn K (.ref f8) = true)
    (a9 : PySem.W.nsIn K mainGlobals "check_text" = some (some (.ref f9))) (l9 : K.lookup f9 = some ⟨oc9, od9, .func (PySem.W.fnOf "check_text" "check_text" (defArgs s_check_text) (defBody s_check_text) (defScope s_check_text) .none kV9 dc9 pm9 an9 cd9 ct9), sl9⟩) (c9 : PySem.W.codeIn K cd9 "check_text" = true) (k9 : PySem.W.keepIn K (.ref f9) = true)
    (a10 : PySem.W.nsIn K mainGlobals "check_letter" = some (some (.ref f10))) (l10 : K.lookup f10 = some ⟨oc10, od10, .func (PySem.W.fnOf "check_letter" "check_letter" (defArgs s_check_letter) (defBody s_check_letter) (defScope s_check_letter) .none kV10 dc10 pm10 an10 cd10 ct10), sl10⟩) (c10 : PySem.W.codeIn K cd10 "check_letter" = true) (k10 : PySem.W.keepIn K (.ref f10) = true)
    (a11 : PySem.W.nsIn K mainGlobals "spans_of" = some (some (.ref f11))) (l11 : K.lookup f11 = some ⟨oc11, od11, .func (PySem.W.fnOf "spans_of" "spans_of" (defArgs s_spans_of) (defBody s_spans_of) (defScope s_spans_of) .none kV11 dc11 pm11 an11 cd11 ct11), sl11⟩) (c11 : PySem.W.codeIn K cd11 "spans_of" = true) (k11 : PySem.W.keepIn K (.ref f11) = true)
    (a12 : PySem.W.nsIn K mainGlobals "end_of" = some (some (.ref f12))) (l12 : K.lookup f12 = some ⟨oc12, od12, .func (PySem.W.fnOf "end_of" "end_of" (defArgs s_end_of) (defBody s_end_of) (defScope s_end_of) .none kV12 dc12 pm12 an12 cd12 ct12), sl12⟩) (c12 : PySem.W.codeIn K cd12 "end_of" = true) (k12 : PySem.W.keepIn K (.ref f12) = true)
    (a13 : PySem.W.nsIn K mainGlobals "stretch" = some (some (.ref f13))) (l13 : K.lookup f13 = some ⟨oc13, od13, .func (PySem.W.fnOf "stretch" "stretch" (defArgs s_stretch) (defBody s_stretch) (defScope s_stretch) .none kV13 dc13 pm13 an13 cd13 ct13), sl13⟩) (c13 : PySem.W.codeIn K cd13 "stretch" = true) (k13 : PySem.W.keepIn K (.ref f13) = true)
    (a14 : PySem.W.nsIn K mainGlobals "look" = some (some (.ref f14))) (l14 : K.lookup f14 = some ⟨oc14, od14, .func (PySem.W.fnOf "look" "look" (defArgs s_look) (defBody s_look) (defScope s_look) .none kV14 dc14 pm14 an14 cd14 ct14), sl14⟩) (c14 : PySem.W.codeIn K cd14 "look" = true) (k14 : PySem.W.keepIn K (.ref f14) = true)
    (a15 : PySem.W.nsIn K mainGlobals "among" = some (some (.ref f15))) (l15 : K.lookup f15 = some ⟨oc15, od15, .func (PySem.W.fnOf "among" "among" (defArgs s_among) (defBody s_among) (defScope s_among) .none kV15 dc15 pm15 an15 cd15 ct15), sl15⟩) (c15 : PySem.W.codeIn K cd15 "among" = true) (k15 : PySem.W.keepIn K (.ref f15) = true)
    (a16 : PySem.W.nsIn K mainGlobals "nth_again" = some (some (.ref f16))) (l16 : K.lookup f16 = some ⟨oc16, od16, .func (PySem.W.fnOf "nth_again" "nth_again" (defArgs s_nth_again) (defBody s_nth_again) (defScope s_nth_again) .none kV16 dc16 pm16 an16 cd16 ct16), sl16⟩) (c16 : PySem.W.codeIn K cd16 "nth_again" = true) (k16 : PySem.W.keepIn K (.ref f16) = true)
    (a17 : PySem.W.nsIn K mainGlobals "letter" = some (some (.ref f17))) (l17 : K.lookup f17 = some ⟨oc17, od17, .func (PySem.W.fnOf "letter" "letter" (defArgs s_letter) (defBody s_letter) (defScope s_letter) .none kV17 dc17 pm17 an17 cd17 ct17), sl17⟩) (c17 : PySem.W.codeIn K cd17 "letter" = true) (k17 : PySem.W.keepIn K (.ref f17) = true)
    (a18 : PySem.W.nsIn K mainGlobals "looks" = some (some (.ref f18))) (l18 : K.lookup f18 = some ⟨oc18, od18, .func (PySem.W.fnOf "looks" "looks" (defArgs s_looks) (defBody s_looks) (defScope s_looks) .none kV18 dc18 pm18 an18 cd18 ct18), sl18⟩) (c18 : PySem.W.codeIn K cd18 "looks" = true) (k18 : PySem.W.keepIn K (.ref f18) = true)
    (a19 : PySem.W.nsIn K mainGlobals "count" = some (some (.ref f19))) (l19 : K.lookup f19 = some ⟨oc19, od19, .func (PySem.W.fnOf "count" "count" (defArgs s_count) (defBody s_count) (defScope s_count) .none kV19 dc19 pm19 an19 cd19 ct19), sl19⟩) (c19 : PySem.W.codeIn K cd19 "count" = true) (k19 : PySem.W.keepIn K (.ref f19) = true)
    (a20 : PySem.W.nsIn K mainGlobals "nth" = some (some (.ref f20))) (l20 : K.lookup f20 = some ⟨oc20, od20, .func (PySem.W.fnOf "nth" "nth" (defArgs s_nth) (defBody s_nth) (defScope s_nth) .none kV20 dc20 pm20 an20 cd20 ct20), sl20⟩) (c20 : PySem.W.codeIn K cd20 "nth" = true) (k20 : PySem.W.keepIn K (.ref f20) = true)
    (a21 : PySem.W.nsIn K mainGlobals "_law_spring" = some (some (.ref f21))) (l21 : K.lookup f21 = some ⟨oc21, od21, .func (PySem.W.fnOf "_law_spring" "_law_spring" (defArgs s__law_spring) (defBody s__law_spring) (defScope s__law_spring) .none kV21 dc21 pm21 an21 cd21 ct21), sl21⟩) (c21 : PySem.W.codeIn K cd21 "_law_spring" = true) (k21 : PySem.W.keepIn K (.ref f21) = true)
    (a22 : PySem.W.nsIn K mainGlobals "_law_draw" = some (some (.ref f22))) (l22 : K.lookup f22 = some ⟨oc22, od22, .func (PySem.W.fnOf "_law_draw" "_law_draw" (defArgs s__law_draw) (defBody s__law_draw) (defScope s__law_draw) .none kV22 dc22 pm22 an22 cd22 ct22), sl22⟩) (c22 : PySem.W.codeIn K cd22 "_law_draw" = true) (k22 : PySem.W.keepIn K (.ref f22) = true)
    (a23 : PySem.W.nsIn K mainGlobals "_law_same" = some (some (.ref f23))) (l23 : K.lookup f23 = some ⟨oc23, od23, .func (PySem.W.fnOf "_law_same" "_law_same" (defArgs s__law_same) (defBody s__law_same) (defScope s__law_same) .none kV23 dc23 pm23 an23 cd23 ct23), sl23⟩) (c23 : PySem.W.codeIn K cd23 "_law_same" = true) (k23 : PySem.W.keepIn K (.ref f23) = true)
    (a24 : PySem.W.nsIn K mainGlobals "_law_lists" = some (some (.ref f24))) (l24 : K.lookup f24 = some ⟨oc24, od24, .func (PySem.W.fnOf "_law_lists" "_law_lists" (defArgs s__law_lists) (defBody s__law_lists) (defScope s__law_lists) .none kV24 dc24 pm24 an24 cd24 ct24), sl24⟩) (c24 : PySem.W.codeIn K cd24 "_law_lists" = true) (k24 : PySem.W.keepIn K (.ref f24) = true)
    (a25 : PySem.W.nsIn K mainGlobals "_law_handed" = some (some (.ref f25))) (l25 : K.lookup f25 = some ⟨oc25, od25, .func (PySem.W.fnOf "_law_handed" "_law_handed" (defArgs s__law_handed) (defBody s__law_handed) (defScope s__law_handed) .none kV25 dc25 pm25 an25 cd25 ct25), sl25⟩) (c25 : PySem.W.codeIn K cd25 "_law_handed" = true) (k25 : PySem.W.keepIn K (.ref f25) = true)
    (a26 : PySem.W.nsIn K mainGlobals "_law_word" = some (some (.ref f26))) (l26 : K.lookup f26 = some ⟨oc26, od26, .func (PySem.W.fnOf "_law_word" "_law_word" (defArgs s__law_word) (defBody s__law_word) (defScope s__law_word) .none kV26 dc26 pm26 an26 cd26 ct26), sl26⟩) (c26 : PySem.W.codeIn K cd26 "_law_word" = true) (k26 : PySem.W.keepIn K (.ref f26) = true)
    (a27 : PySem.W.nsIn K mainGlobals "_law_text" = some (some (.ref f27))) (l27 : K.lookup f27 = some ⟨oc27, od27, .func (PySem.W.fnOf "_law_text" "_law_text" (defArgs s__law_text) (defBody s__law_text) (defScope s__law_text) .none kV27 dc27 pm27 an27 cd27 ct27), sl27⟩) (c27 : PySem.W.codeIn K cd27 "_law_text" = true) (k27 : PySem.W.keepIn K (.ref f27) = true)
    (a28 : PySem.W.nsIn K mainGlobals "_law_laid" = some (some (.ref f28))) (l28 : K.lookup f28 = some ⟨oc28, od28, .func (PySem.W.fnOf "_law_laid" "_law_laid" (defArgs s__law_laid) (defBody s__law_laid) (defScope s__law_laid) .none kV28 dc28 pm28 an28 cd28 ct28), sl28⟩) (c28 : PySem.W.codeIn K cd28 "_law_laid" = true) (k28 : PySem.W.keepIn K (.ref f28) = true)
    (a29 : PySem.W.nsIn K mainGlobals "_law_right" = some (some (.ref f29))) (l29 : K.lookup f29 = some ⟨oc29, od29, .func (PySem.W.fnOf "_law_right" "_law_right" (defArgs s__law_right) (defBody s__law_right) (defScope s__law_right) .none kV29 dc29 pm29 an29 cd29 ct29), sl29⟩) (c29 : PySem.W.codeIn K cd29 "_law_right" = true) (k29 : PySem.W.keepIn K (.ref f29) = true)
    (a30 : PySem.W.nsIn K mainGlobals "law" = some (some (.ref f30))) (l30 : K.lookup f30 = some ⟨oc30, od30, .func (PySem.W.fnOf "law" "law" (defArgs s_law) (defBody s_law) (defScope s_law) .none kV30 dc30 pm30 an30 cd30 ct30), sl30⟩) (c30 : PySem.W.codeIn K cd30 "law" = true) (k30 : PySem.W.keepIn K (.ref f30) = true)
    (z_abs : PySem.W.nsIn K mainGlobals "abs" = some none)
    (z_all : PySem.W.nsIn K mainGlobals "all" = some none)
    (z_bool : PySem.W.nsIn K mainGlobals "bool" = some none)
    (z_divmod : PySem.W.nsIn K mainGlobals "divmod" = some none)
    (z_int : PySem.W.nsIn K mainGlobals "int" = some none)
    (z_isinstance : PySem.W.nsIn K mainGlobals "isinstance" = some none)
    (z_len : PySem.W.nsIn K mainGlobals "len" = some none)
    (z_list : PySem.W.nsIn K mainGlobals "list" = some none)
    (z_max : PySem.W.nsIn K mainGlobals "max" = some none)
    (z_min : PySem.W.nsIn K mainGlobals "min" = some none)
    (z_range : PySem.W.nsIn K mainGlobals "range" = some none)
    (z_repr : PySem.W.nsIn K mainGlobals "repr" = some none)
    (z_str : PySem.W.nsIn K mainGlobals "str" = some none)
    (z_tuple : PySem.W.nsIn K mainGlobals "tuple" = some none)
    (z_type : PySem.W.nsIn K mainGlobals "type" = some none)
    (v_ALPHABET : PySem.W.nsIn K mainGlobals "ALPHABET" = some (some (.str "abcdefghijklmnopqrstuvwxyz" t_ALPHABET)))
    (v_LONGEST_LOOK : PySem.W.nsIn K mainGlobals "LONGEST_LOOK" = some (some (.int 2000 t_LONGEST_LOOK)))
    (v_LONGEST_WORD : PySem.W.nsIn K mainGlobals "LONGEST_WORD" = some (some (.int 60 t_LONGEST_WORD)))
    (v_MOST_LETTERS : PySem.W.nsIn K mainGlobals "MOST_LETTERS" = some (some (.int 1000000000000000000000000000000 t_MOST_LETTERS)))
    (v_MOST_PIECES : PySem.W.nsIn K mainGlobals "MOST_PIECES" = some (some (.int 40 t_MOST_PIECES))) :
    ∃ fd : FuncData, (∀ (s : Shared) (v : Value), BindsTo s fd ⟨[v], []⟩ [("script", v)]) ∧ ∀ base : Heap, K.In base → base.Ns mainGlobals mg → FnG l.prog w K mg base L2.CX0 9 fa fd ["script"] (spLaw K) := by
  have e := hfa.symm.trans (PySem.W.mg_of X G a30)
  cases e
  have F0 := fun_mk (st := s_is_row) l0 c0 k0
  have F1 := fun_mk (st := s_is_whole) l1 c1 k1
  have F2 := fun_mk (st := s_is_within) l2 c2 k2
  have F3 := fun_mk (st := s_is_plain) l3 c3 k3
  have F4 := fun_mk (st := s_is_letter) l4 c4 k4
  have F5 := fun_mk (st := s_is_clip) l5 c5 k5
  have F6 := fun_mk (st := s_is_word) l6 c6 k6
  have F7 := fun_mk (st := s_is_piece) l7 c7 k7
  have F8 := fun_mk (st := s_is_text) l8 c8 k8
  have F9 := fun_mk (st := s_check_text) l9 c9 k9
  have F10 := fun_mk (st := s_check_letter) l10 c10 k10
  have F11 := fun_mk (st := s_spans_of) l11 c11 k11
  have F12 := fun_mk (st := s_end_of) l12 c12 k12
  have F13 := fun_mk (st := s_stretch) l13 c13 k13
  have F14 := fun_mk (st := s_look) l14 c14 k14
  have F15 := fun_mk (st := s_among) l15 c15 k15
  have F16 := fun_mk (st := s_nth_again) l16 c16 k16
  have F17 := fun_mk (st := s_letter) l17 c17 k17
  have F18 := fun_mk (st := s_looks) l18 c18 k18
  have F19 := fun_mk (st := s_count) l19 c19 k19
  have F20 := fun_mk (st := s_nth) l20 c20 k20
  have F21 := fun_mk (st := s__law_spring) l21 c21 k21
  have F22 := fun_mk (st := s__law_draw) l22 c22 k22
  have F23 := fun_mk (st := s__law_same) l23 c23 k23
  have F24 := fun_mk (st := s__law_lists) l24 c24 k24
  have F25 := fun_mk (st := s__law_handed) l25 c25 k25
  have F26 := fun_mk (st := s__law_word) l26 c26 k26
  have F27 := fun_mk (st := s__law_text) l27 c27 k27
  have F28 := fun_mk (st := s__law_laid) l28 c28 k28
  have F29 := fun_mk (st := s__law_right) l29 c29 k29
  have F30 := fun_mk (st := s_law) l30 c30 k30
  let T : Txt K mg := ⟨⟨f0, _, F0, PySem.W.mg_of X G a0, F0.binds (ps := ["thing"]) fun _ _ _ _ _ _ us hl => match us, hl with | [_], _ => rfl⟩,
    ⟨f1, _, F1, PySem.W.mg_of X G a1, F1.binds (ps := ["thing", "low"]) fun _ _ _ _ _ _ us hl => match us, hl with | [_, _], _ => rfl⟩,
    ⟨f2, _, F2, PySem.W.mg_of X G a2, F2.binds (ps := ["thing", "low", "high"]) fun _ _ _ _ _ _ us hl => match us, hl with | [_, _, _], _ => rfl⟩,
    ⟨f3, _, F3, PySem.W.mg_of X G a3, F3.binds (ps := ["thing"]) fun _ _ _ _ _ _ us hl => match us, hl with | [_], _ => rfl⟩,
    ⟨f4, _, F4, PySem.W.mg_of X G a4, F4.binds (ps := ["thing"]) fun _ _ _ _ _ _ us hl => match us, hl with | [_], _ => rfl⟩,
    ⟨f5, _, F5, PySem.W.mg_of X G a5, F5.binds (ps := ["thing"]) fun _ _ _ _ _ _ us hl => match us, hl with | [_], _ => rfl⟩,
    ⟨f6, _, F6, PySem.W.mg_of X G a6, F6.binds (ps := ["thing"]) fun _ _ _ _ _ _ us hl => match us, hl with | [_], _ => rfl⟩,
    ⟨f7, _, F7, PySem.W.mg_of X G a7, F7.binds (ps := ["thing"]) fun _ _ _ _ _ _ us hl => match us, hl with | [_], _ => rfl⟩,
    ⟨f8, _, F8, PySem.W.mg_of X G a8, F8.binds (ps := ["thing"]) fun _ _ _ _ _ _ us hl => match us, hl with | [_], _ => rfl⟩,
    ⟨f9, _, F9, PySem.W.mg_of X G a9, F9.binds (ps := ["thing"]) fun _ _ _ _ _ _ us hl => match us, hl with | [_], _ => rfl⟩,
    ⟨f10, _, F10, PySem.W.mg_of X G a10, F10.binds (ps := ["thing"]) fun _ _ _ _ _ _ us hl => match us, hl with | [_], _ => rfl⟩,
    ⟨f11, _, F11, PySem.W.mg_of X G a11, F11.binds (ps := ["text"]) fun _ _ _ _ _ _ us hl => match us, hl with | [_], _ => rfl⟩,
    ⟨f12, _, F12, PySem.W.mg_of X G a12, F12.binds (ps := ["spans"]) fun _ _ _ _ _ _ us hl => match us, hl with | [_], _ => rfl⟩,
    ⟨f13, _, F13, PySem.W.mg_of X G a13, F13.binds (ps := ["word", "at", "many"]) fun _ _ _ _ _ _ us hl => match us, hl with | [_, _, _], _ => rfl⟩,
    ⟨f14, _, F14, PySem.W.mg_of X G a14, F14.binds (ps := ["spans", "place", "many"]) fun _ _ _ _ _ _ us hl => match us, hl with | [_, _, _], _ => rfl⟩,
    ⟨f15, _, F15, PySem.W.mg_of X G a15, F15.binds (ps := ["word", "sign", "many"]) fun _ _ _ _ _ _ us hl => match us, hl with | [_, _, _], _ => rfl⟩,
    ⟨f16, _, F16, PySem.W.mg_of X G a16, F16.binds (ps := ["word", "sign", "number"]) fun _ _ _ _ _ _ us hl => match us, hl with | [_, _, _], _ => rfl⟩,
    ⟨f17, _, F17, PySem.W.mg_of X G a17, F17.binds (ps := ["text", "place"]) fun _ _ _ _ _ _ us hl => match us, hl with | [_, _], _ => rfl⟩,
    ⟨f18, _, F18, PySem.W.mg_of X G a18, F18.binds (ps := ["text", "place", "many"]) fun _ _ _ _ _ _ us hl => match us, hl with | [_, _, _], _ => rfl⟩,
    ⟨f19, _, F19, PySem.W.mg_of X G a19, F19.binds (ps := ["text", "sign", "many"]) fun _ _ _ _ _ _ us hl => match us, hl with | [_, _, _], _ => rfl⟩,
    ⟨f20, _, F20, PySem.W.mg_of X G a20, F20.binds (ps := ["text", "sign", "number"]) fun _ _ _ _ _ _ us hl => match us, hl with | [_, _, _], _ => rfl⟩,
    ⟨f21, _, F21, PySem.W.mg_of X G a21, F21.binds (ps := ["script"]) fun _ _ _ _ _ _ us hl => match us, hl with | [_], _ => rfl⟩,
    ⟨f22, _, F22, PySem.W.mg_of X G a22, F22.binds (ps := ["spring", "many"]) fun _ _ _ _ _ _ us hl => match us, hl with | [_, _], _ => rfl⟩,
    ⟨f23, _, F23, PySem.W.mg_of X G a23, F23.binds (ps := ["found", "due"]) fun _ _ _ _ _ _ us hl => match us, hl with | [_, _], _ => rfl⟩,
    ⟨f24, _, F24, PySem.W.mg_of X G a24, F24.binds (ps := ["thing"]) fun _ _ _ _ _ _ us hl => match us, hl with | [_], _ => rfl⟩,
    ⟨f25, _, F25, PySem.W.mg_of X G a25, F25.binds (ps := ["spring", "thing"]) fun _ _ _ _ _ _ us hl => match us, hl with | [_, _], _ => rfl⟩,
    ⟨f26, _, F26, PySem.W.mg_of X G a26, F26.binds (ps := ["spring", "most"]) fun _ _ _ _ _ _ us hl => match us, hl with | [_, _], _ => rfl⟩,
    ⟨f27, _, F27, PySem.W.mg_of X G a27, F27.binds (ps := ["spring", "most", "wide", "times"]) fun _ _ _ _ _ _ us hl => match us, hl with | [_, _, _, _], _ => rfl⟩,
    ⟨f28, _, F28, PySem.W.mg_of X G a28, F28.binds (ps := ["text"]) fun _ _ _ _ _ _ us hl => match us, hl with | [_], _ => rfl⟩,
    ⟨f29, _, F29, PySem.W.mg_of X G a29, F29.binds (ps := ["spring", "text", "handed"]) fun _ _ _ _ _ _ us hl => match us, hl with | [_, _, _], _ => rfl⟩,
    ⟨fa, _, F30, PySem.W.mg_of X G a30, F30.binds (ps := ["script"]) fun _ _ _ _ _ _ us hl => match us, hl with | [_], _ => rfl⟩,
    PySem.W.mg_none_of X G z_abs,
    PySem.W.mg_none_of X G z_all,
    PySem.W.mg_none_of X G z_bool,
    PySem.W.mg_none_of X G z_divmod,
    PySem.W.mg_none_of X G z_int,
    PySem.W.mg_none_of X G z_isinstance,
    PySem.W.mg_none_of X G z_len,
    PySem.W.mg_none_of X G z_list,
    PySem.W.mg_none_of X G z_max,
    PySem.W.mg_none_of X G z_min,
    PySem.W.mg_none_of X G z_range,
    PySem.W.mg_none_of X G z_repr,
    PySem.W.mg_none_of X G z_str,
    PySem.W.mg_none_of X G z_tuple,
    PySem.W.mg_none_of X G z_type,
    ⟨_, PySem.W.mg_of X G v_ALPHABET⟩,
    ⟨_, PySem.W.mg_of X G v_LONGEST_LOOK⟩,
    ⟨_, PySem.W.mg_of X G v_LONGEST_WORD⟩,
    ⟨_, PySem.W.mg_of X G v_MOST_LETTERS⟩,
    ⟨_, PySem.W.mg_of X G v_MOST_PIECES⟩⟩
  exact ⟨T.f_law.fd, fun s v => .of_eq rfl, fun base _ _ => ok_law T⟩
end BK
open PySem PySem.W PyProof.Rows
set_option maxRecDepth 100000 in
set_option maxHeartbeats 0 in
theorem PySem.Challenge.cw_blindkeys_k02_letters_of_texts_holds : PySem.Challenge.rw_blindkeys_k02_letters_of_texts.Holds := by
  w_on; o_law; k_head; (case hw => w_witness2)
  k_fill
  refine BK.walk_G (l := PySem.Challenge.rw_blindkeys_k02_letters_of_texts) (n := 63) (k := 9) (x := "script") (C := fun _ => L2.CX0) (sp := fun w => BK.spLaw _) rfl (by decide) rfl ⟨rfl, by decide, by decide⟩ (fun w h Y => PySem.W.kIn_of Y) ?F (fun _ _ a ns hl _ hS => ⟨a, ns, rfl, hS, hl, fun _ => rfl⟩) (fun _ _ _ _ _ h => h)
  case F =>
    intro w mg fa h KX G hmg
    refine' BK.all_mk KX G hmg ?a0 ?l0 ?c0 ?k0 ?a1 ?l1 ?c1 ?k1 ?a2 ?l2 ?c2 ?k2 ?a3 ?l3 ?c3 ?k3 ?a4 ?l4 ?c4 ?k4 ?a5 ?l5 ?c5 ?k5 ?a6 ?l6 ?c6 ?k6 ?a7 ?l7 ?c7 ?k7 ?a8 ?l8 ?c8 ?k8 ?a9 ?l9 ?c9 ?k9 ?a10 ?l10 ?c10 ?k10 ?a11 ?l11 ?c11 ?k11 ?a12 ?l12 ?c12 ?k12 ?a13 ?l13 ?c13 ?k13 ?a14 ?l14 ?c14 ?k14 ?a15 ?l15 ?c15 ?k15 ?a16 ?l16 ?c16 ?k16 ?a17 ?l17 ?c17 ?k17 ?a18 ?l18 ?c18 ?k18 ?a19 ?l19 ?c19 ?k19 ?a20 ?l20 ?c20 ?k20 ?a21 ?l21 ?c21 ?k21 ?a22 ?l22 ?c22 ?k22 ?a23 ?l23 ?c23 ?k23 ?a24 ?l24 ?c24 ?k24 ?a25 ?l25 ?c25 ?k25 ?a26 ?l26 ?c26 ?k26 ?a27 ?l27 ?c27 ?k27 ?a28 ?l28 ?c28 ?k28 ?a29 ?l29 ?c29 ?k29 ?a30 ?l30 ?c30 ?k30 ?z_abs ?z_all ?z_bool ?z_divmod ?z_int ?z_isinstance ?z_len ?z_list ?z_max ?z_min ?z_range ?z_repr ?z_str ?z_tuple ?z_type ?v_ALPHABET ?v_LONGEST_LOOK ?v_LONGEST_WORD ?v_MOST_LETTERS ?v_MOST_PIECES
    (case a0 => k_is)
    (case l0 => k_is)
    (case c0 => k_is)
    (case k0 => k_is)
    (case a1 => k_is)
    (case l1 => k_is)
    (case c1 => k_is)
    (case k1 => k_is)
    (case a2 => k_is)
    (case l2 => k_is)
    (case c2 => k_is)
    (case k2 => k_is)
    (case a3 => k_is)
    (case l3 => k_is)
    (case c3 => k_is)
    (case k3 => k_is)
    (case a4 => k_is)
    (case l4 => k_is)
    (case c4 => k_is)
    (case k4 => k_is)
    (case a5 => k_is)
    (case l5 => k_is)
    (case c5 => k_is)
    (case k5 => k_is)
    (case a6 => k_is)
    (case l6 => k_is)
    (case c6 => k_is)
    (case k6 => k_is)
    (case a7 => k_is)
    (case l7 => k_is)
    (case c7 => k_is)
    (case k7 => k_is)
    (case a8 => k_is)
    (case l8 => k_is)
    (case c8 => k_is)
    (case k8 => k_is)
    (case a9 => k_is)
    (case l9 => k_is)
    (case c9 => k_is)
    (case k9 => k_is)
    (case a10 => k_is)
    (case l10 => k_is)
    (case c10 => k_is)
    (case k10 => k_is)
    (case a11 => k_is)
    (case l11 => k_is)
    (case c11 => k_is)
    (case k11 => k_is)
    (case a12 => k_is)
    (case l12 => k_is)
    (case c12 => k_is)
    (case k12 => k_is)
    (case a13 => k_is)
    (case l13 => k_is)
    (case c13 => k_is)
    (case k13 => k_is)
    (case a14 => k_is)
    (case l14 => k_is)
    (case c14 => k_is)
    (case k14 => k_is)
    (case a15 => k_is)
    (case l15 => k_is)
    (case c15 => k_is)
    (case k15 => k_is)
    (case a16 => k_is)
    (case l16 => k_is)
    (case c16 => k_is)
    (case k16 => k_is)
    (case a17 => k_is)
    (case l17 => k_is)
    (case c17 => k_is)
    (case k17 => k_is)
    (case a18 => k_is)
    (case l18 => k_is)
    (case c18 => k_is)
    (case k18 => k_is)
    (case a19 => k_is)
    (case l19 => k_is)
    (case c19 => k_is)
    (case k19 => k_is)
    (case a20 => k_is)
    (case l20 => k_is)
    (case c20 => k_is)
    (case k20 => k_is)
    (case a21 => k_is)
    (case l21 => k_is)
    (case c21 => k_is)
    (case k21 => k_is)
    (case a22 => k_is)
    (case l22 => k_is)
    (case c22 => k_is)
    (case k22 => k_is)
    (case a23 => k_is)
    (case l23 => k_is)
    (case c23 => k_is)
    (case k23 => k_is)
    (case a24 => k_is)
    (case l24 => k_is)
    (case c24 => k_is)
    (case k24 => k_is)
    (case a25 => k_is)
    (case l25 => k_is)
    (case c25 => k_is)
    (case k25 => k_is)
    (case a26 => k_is)
    (case l26 => k_is)
    (case c26 => k_is)
    (case k26 => k_is)
    (case a27 => k_is)
    (case l27 => k_is)
    (case c27 => k_is)
    (case k27 => k_is)
    (case a28 => k_is)
    (case l28 => k_is)
    (case c28 => k_is)
    (case k28 => k_is)
    (case a29 => k_is)
    (case l29 => k_is)
    (case c29 => k_is)
    (case k29 => k_is)
    (case a30 => k_is)
    (case l30 => k_is)
    (case c30 => k_is)
    (case k30 => k_is)
    (case z_abs => k_is)
    (case z_all => k_is)
    (case z_bool => k_is)
    (case z_divmod => k_is)
    (case z_int => k_is)
    (case z_isinstance => k_is)
    (case z_len => k_is)
    (case z_list => k_is)
    (case z_max => k_is)
    (case z_min => k_is)
    (case z_range => k_is)
    (case z_repr => k_is)
    (case z_str => k_is)
    (case z_tuple => k_is)
    (case z_type => k_is)
    (case v_ALPHABET => k_is)
    (case v_LONGEST_LOOK => k_is)
    (case v_LONGEST_WORD => k_is)
    (case v_MOST_LETTERS => k_is)
    (case v_MOST_PIECES => k_is)
