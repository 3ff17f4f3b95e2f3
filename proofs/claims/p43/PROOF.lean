import PyProof.Rows.All
import Wide.All
import OpenK.AllK
import Wide.FinOn
import HandS.ForMost
import KE.KTupSum
import KE.GoesMore
import HandS.SortKw
import KE.DataMinMax
import KE.KDictCopyH
import KE.KDictKeyed
import KE.KDictLaw
import PyProof.FString
import KE.KExcSuper
import HandS.Base
import HandS.Call
import HandS.Exc
import PyProof.EqAt
import KE.KExcIs
import HandS.ExcIs
import HandS.TryOnly
import HandS.Lambda
import PyProof.SeqRoads
import HandS.NamedTup0
import HandS.NamedTupGet
import HandS.Star
import HandS.ClsMeth
import KE.KMathGC
import PySem.Challenge.RW_warmswitch_k43_signs_of_prices
import HandS.Property
import HandS.MakeKwOnly
import HandS.Gcd
import HandS.WideBits
import HandS.Wide
import HandS.TupAny
import HandS.Style
import HandS.Iter
import HandS.IsInst
import HandS.WordsExc
import KE.KStateDown
import HandS.Head0
import HandS.Head1
import HandS.Head2
import HandS.Head3
import HandS.HeadEnd
import HandS.HeadHook1
import HandS.HeadHook2
import KE.KNestM
import HandS.HeadHook4
import HandS.HeadNt
import HandS.EndTab
import KE.KDflt
import HandS.Words
import PyProof.InstNe
import HandS.TupMul
import HandS.OwnEq
import OpenK.KMeth
import KE.KCallOwn
import HandS.CallLocal
import KE.KOpsOwn
import HandS.SlotsOwn
import HandS.ExcOwn
set_option Elab.async false
set_option linter.all false
set_option maxRecDepth 100000
/-! more rules over the hand layer: a chain of three comparisons, sum of a tuple, enumerate of a tuple -/
namespace Ru
open PySem PySem.Spec PyProof.Rows L2
section
variable {X : Cx} {a b c d : Expr} {ta tb tc td : TE} {pos : Pos}
/-- a op1 b op2 c op3 d, each answer a truth value; behind a False the rest isn't asked -/
def tCh3 (r1 r2 r3 : R2) (ta tb tc td : TE) : TT := fun σ H Q => ta σ H fun x H1 => tb σ H1 fun y H2 => r1 x y H2 fun z H3 => ∃ k, z = .bl k ∧
  (if k = true then tc σ H3 fun u H4 => r2 y u H4 fun z2 H5 => ∃ k2, z2 = .bl k2 ∧ (if k2 = true then td σ H5 fun v H6 => r3 u v H6 fun z3 H7 => ∃ k3, z3 = .bl k3 ∧ Q k3 H7 else Q false H5) else Q false H3)
theorem pt_ch3 {o1 o2 o3 : CmpOp} {r1 r2 r3 : R2} (h1 : OpR X (compareOp o1) r1) (h2 : OpR X (compareOp o2) r2) (h3 : OpR X (compareOp o3) r3) (ha : PE X a ta) (hb : PE X b tb) (hc : PE X c tc) (hd : PE X d td)
    (hm : lastMarks [o1, o2, o3] [b, c, d] = false := by with_unfolding_all rfl) : PT X (.Compare a [o1, o2, o3] [b, c, d] pos) (tCh3 r1 r2 r3 ta tb tc td) :=
  ⟨fun pins s σ H Q I h => isTrue_chain (thn (ha.run pins s σ H _ I h) fun va s1 ⟨x, H1, I1, e1, g1⟩ => test_link (thn (hb.run pins s1 σ H1 _ I1 g1) fun vb s2 ⟨y, H2, I2, e2, g2⟩ =>
    thn (h1 pins s2 σ H2 x y va vb _ I2 e1 e2 g2) fun w1 s3 ⟨z, H3, I3, e3, k, ek, g3⟩ => by
      subst ek; cases e3
      refine wpAny_truthy_bool ?_
      cases k with
      | false => exact ite_ff ⟨H3, I3, g3⟩
      | true =>
        exact ite_tt (test_link (thn (hc.run pins s3 σ H3 _ I3 g3) fun vc s4 ⟨u, H4, I4, e4, g4⟩ => thn (h2 pins s4 σ H4 y u vb vc _ I4 e2 e4 g4) fun w2 s5 ⟨z2, H5, I5, e5, k2, ek2, g5⟩ => by
          subst ek2; cases e5
          refine wpAny_truthy_bool ?_
          cases k2 with
          | false => exact ite_ff ⟨H5, I5, g5⟩
          | true =>
            exact ite_tt (test_last (thn (hd.run pins s5 σ H5 _ I5 g5) fun vd s6 ⟨v, H6, I6, e6, g6⟩ => thn (h3 pins s6 σ H6 u v vc vd _ I6 e4 e6 g6) fun w3 s7 ⟨z3, H7, I7, e7, k3, ek3, g7⟩ => by
              subst ek3; cases e7
              exact wpAny_truthy_bool ⟨H7, I7, g7⟩)))))) hm⟩
/-- the same as a value -/
def tCh3v (r1 r2 r3 : R2) (ta tb tc td : TE) : TE := fun σ H Q => ta σ H fun x H1 => tb σ H1 fun y H2 => r1 x y H2 fun z H3 => ∃ k, z = .bl k ∧
  (if k = true then tc σ H3 fun u H4 => r2 y u H4 fun z2 H5 => ∃ k2, z2 = .bl k2 ∧ (if k2 = true then td σ H5 fun v H6 => r3 u v H6 Q else Q (.bl false) H5) else Q (.bl false) H3)
theorem pe_ch3 {o1 o2 o3 : CmpOp} {r1 r2 r3 : R2} (h1 : OpR X (compareOp o1) r1) (h2 : OpR X (compareOp o2) r2) (h3 : OpR X (compareOp o3) r3) (ha : PE X a ta) (hb : PE X b tb) (hc : PE X c tc) (hd : PE X d td)
    (hm : lastMarks [o1, o2, o3] [b, c, d] = false := by with_unfolding_all rfl) : PE X (.Compare a [o1, o2, o3] [b, c, d] pos) (tCh3v r1 r2 r3 ta tb tc td) :=
  ⟨fun pins s σ H Q I h => Compare_chain (thn (ha.run pins s σ H _ I h) fun va s1 ⟨x, H1, I1, e1, g1⟩ => chain_link (thn (hb.run pins s1 σ H1 _ I1 g1) fun vb s2 ⟨y, H2, I2, e2, g2⟩ =>
    thn (h1 pins s2 σ H2 x y va vb _ I2 e1 e2 g2) fun w1 s3 ⟨z, H3, I3, e3, k, ek, g3⟩ => by
      subst ek; cases e3
      refine wpAny_truthy_bool ?_
      cases k with
      | false => exact ite_ff ⟨.bl false, H3, I3, rfl, g3⟩
      | true =>
        exact ite_tt (chain_link (thn (hc.run pins s3 σ H3 _ I3 g3) fun vc s4 ⟨u, H4, I4, e4, g4⟩ => thn (h2 pins s4 σ H4 y u vb vc _ I4 e2 e4 g4) fun w2 s5 ⟨z2, H5, I5, e5, k2, ek2, g5⟩ => by
          subst ek2; cases e5
          refine wpAny_truthy_bool ?_
          cases k2 with
          | false => exact ite_ff ⟨.bl false, H5, I5, rfl, g5⟩
          | true => exact ite_tt (chain_last (thn (hd.run pins s5 σ H5 _ I5 g5) fun vd s6 ⟨v, H6, I6, e6, g6⟩ => h3 pins s6 σ H6 u v vc vd Q I6 e4 e6 g6)))))) hm⟩
/-- sum(t), t a tuple of ints -/
def rSumT (K : PySem.W.Frag) : List V → Hp → VK → Prop := fun vs H Q => ∃ (p : Addr) (ns : List Int), vs = [V.ref p] ∧ SqT K H p (ns.map V.int) ∧ Q (.int ns.sum) H
theorem cr_sumT (hc : X.calm = true) : CallR X (.builtin "sum") (rSumT X.K) := fun pins s σ H vs us Q I r h => by
  obtain ⟨p, ns, rfl, hs, g⟩ := h
  obtain ⟨its, rv, ht, _⟩ := I.tuple hs
  rw [Vals.ref1 r]
  obtain ⟨xs, ex⟩ := rv.ints.allInts.items
  have en : numsOf (intItems xs).toList = ns := by rw [← ex]; exact rv.ints.numsOf
  rw [nums_intItems] at en
  rw [ex] at ht
  refine PySem.W.ktm_sumG (I.ok.hd hc) ht fun h' tk t' hk => ⟨.int _, H, I.kept hk, ⟨t', ?_⟩, g⟩
  rw [preSum_eq, List.take_of_length_le (by simp), en]
end
/-! ### enumerate(t), t a tuple -/
theorem enum_newT (l : Addr) (items : Array Value) (n : Nat) (dct : Option Addr) (sl : Array (Option Value)) :
    Meets (Builtin.«enumerate.__new__» ⟨[.type "enumerate", .ref l], []⟩) (fun _ R s => s.heap.get? l = some { cls := .type "tuple", dict := dct, data := .seq items n, slots := sl } ∧
      R (.ok (.ret (.ref (s.heap.push { cls := .type "tuple_iterator", data := .fields #[.ref l, .int 0 0] }).objs.size)))
        { s with heap := (s.heap.push { cls := .type "tuple_iterator", data := .fields #[.ref l, .int 0 0] }).push { cls := .type "enumerate", data := .fields #[.none, .bool false, .ref s.heap.objs.size, rawInt 0, .none, .none] } }) :=
  .of_wp fun prog w A R s hyp => by
    obtain ⟨hp, g, d, tk, os⟩ := s; obtain ⟨hl, hyp⟩ := hyp
    have hsub := sub_enumerate
    have isT : Heap.IsTuple (Shared.heap ⟨hp, g, d, tk, os⟩) l items := ⟨_, hl, rfl, n, rfl⟩
    wp_walk using AutoSeq1.wpAny_loadPart' hl
    refine wpAny_stack_any fun st => wpAny_pure ?_
    split
    · rename_i c _ _ _ _ _
      cases (c == Value.type "enumerate")
      · wp_walk using AutoSeq1.wpAny_loadPart' hl, wpAny_pyIter_tuple isT
        exact ⟨_, rfl, hyp⟩
      · wp_walk using AutoSeq1.wpAny_loadPart' hl, wpAny_pyIter_tuple isT
        exact ⟨_, rfl, hyp⟩
    · wp_walk using AutoSeq1.wpAny_loadPart' hl, wpAny_pyIter_tuple isT
      exact ⟨_, rfl, hyp⟩
section
variable {prog : Program} {w : World} {A : Around} {E : Value → Shared → Prop} {s : Shared}
theorem enum_tuple {l : Addr} {items : Array Value} {Q : Value → Shared → Prop} (ht : s.heap.IsTuple l items)
    (h : ∀ h', IsEnum h' (s.heap.objs.size + 1) s.heap.objs.size 0 .none → h'.IsTupleIter s.heap.objs.size l 0 → (∀ b o, s.heap.get? b = some o → h'.get? b = some o) → Q (.ref (s.heap.objs.size + 1)) { s with heap := h' }) :
    wpAny (model prog w) A (call (.type "enumerate") [.ref l]) Q E s := by
  obtain ⟨⟨c, dct, dt, sl⟩, hl, hc, n, hd⟩ := ht
  obtain rfl : c = .type "tuple" := hc
  obtain rfl : dt = .seq items n := hd
  refine callType_new F.called_enumerate (by decide) (F.typeCall_enumerate_1 _) (F.newCall_enumerate_1 _) (fun obj => F.args_object_init_2 obj _) F.entry_enumerate_new (enum_newT l items n dct sl) ⟨hl, ?_⟩
  generalize ei : ({ cls := .type "tuple_iterator", data := .fields #[.ref l, .int 0 0] } : Obj) = oi
  have hz : (s.heap.push oi).objs.size = s.heap.objs.size + 1 := Heap.size_push ..
  show _ ∧ _
  rw [hz]
  have g : IsEnum ((s.heap.push oi).push { cls := .type "enumerate", data := .fields #[.none, .bool false, .ref s.heap.objs.size, rawInt 0, .none, .none] }) (s.heap.objs.size + 1) s.heap.objs.size 0 .none := by
    have q := Heap.get?_push_size (s.heap.push oi) (o := { cls := .type "enumerate", data := .fields #[.none, .bool false, .ref s.heap.objs.size, rawInt 0, .none, .none] }) rfl
    rw [hz] at q; exact q
  subst ei
  exact ⟨⟨_, g, rfl⟩, h _ g ⟨_, Heap.get?_push_of_some _ (Heap.get?_push_size _ rfl), rfl, rfl⟩ fun b o y => Heap.get?_push_of_some _ (Heap.get?_push_of_some _ y)⟩
end
/-- the tuple of n items at a, each item in a new pair -/
def IteT (K : PySem.W.Frag) (a : Addr) (n : Nat) : It :=
  ⟨fun i H => i < n ∧ ∃ xs : List V, SqT K H a xs ∧ xs.length = n, fun i H v H' => ∃ T x, v = .ref T ∧ H T = none ∧ H' = upd H T (.tup [.int (i : Nat), x]) ∧ ∀ xs, SqT K H a xs → xs[i]? = some x, fun i H => n ≤ i ∧ ∃ xs : List V, SqT K H a xs ∧ xs.length = n⟩
theorem turn_enumT {P : Program} {w : World} {K : PySem.W.Frag} {elts : List Expr} {kk : Nat} {tpos : Pos} (a n e it : Addr) :
    Turn P w K (.Tuple elts kk tpos) (IteT K a n) [e, it] e (fun i h => (∃ old, IsEnum h e it ((i : Nat) : Int) old) ∧ h.IsTupleIter it a i ∧ e ≠ it ∧ a ≠ it ∧ e ≠ a ∧ i ≤ n) where
  mem := by simp
  obj := fun i h ⟨⟨old, he⟩, ⟨o, ho, hc, hd⟩, _⟩ b hb => by
    rcases List.mem_cons.mp hb with rfl | hb
    · exact ⟨_, he, fun v q => nomatch q⟩
    · obtain rfl := List.mem_singleton.mp hb
      exact ⟨o, ho, fun v q => by rw [hd] at q; cases q⟩
  keep := fun i h h' ⟨⟨old, he⟩, ⟨o, ho, hc, hd⟩, hne⟩ k => ⟨⟨old, k e (by simp) _ he⟩, ⟨o, k it (by simp) _ ho, hc, hd⟩, hne⟩
  item := by
    intro X hP hw hK hc i pins s σ H E I hf st hg
    subst hP hw hK
    obtain ⟨⟨old, he⟩, hit, hne, hai, hea, hin⟩ := st
    obtain ⟨hlt0, xs, hq, hn⟩ := hg
    obtain ⟨x, hx⟩ : ∃ x, xs[i]? = some x := ⟨xs[i], by simp [hn, hlt0]⟩
    obtain ⟨its, rv, ht, hz⟩ := I.tuple hq
    obtain ⟨u, hu, ru⟩ := rv.get hx
    have el : e < s.heap.objs.size := Heap.lt_size he
    have il : it < s.heap.objs.size := by obtain ⟨_, q, _⟩ := hit; exact Heap.lt_size q
    have D := Draws.tuple (prog := X.prog) (w := X.w) (A := X.A.in1) (I.ok.hd hc) it a hai its.toArray
    have hlt : i < its.toArray.size := by
      have := (List.getElem?_eq_some_iff.mp hu).1
      simpa using this
    refine wpAny_pyNext_enum_itemD D he ⟨hit, ht⟩ hlt hne (by simp [hne, hea]) fun x' h' tk hP ho st' hT hsz hk => ?_
    have ex : x' = u := by
      have q : its[i]? = some x' := by simpa using hP
      rw [hu] at q; exact (Option.some.inj q).symm
    subst ex
    refine ⟨_, rfl, wpAny_letOwnedTupleGo_enum (s := { s with heap := h', toks := tk + 1 }) ho fun h2 he2 sb => ?_⟩
    have T2 : h2.get? s.heap.objs.size = some { cls := .type "tuple", data := .seq #[.int i tk, x'] } := (sb.2 _ (Nat.ne_of_gt el)).trans hT
    have new : ObjOk X.prog X.w (upd H s.heap.objs.size (.tup [.int (i : Nat), x])) h2 s.heap.objs.size (.tup [.int (i : Nat), x]) := ⟨by show 2 ≤ sizeLine; decide, [.int i tk, x'], .cons ⟨_, rfl⟩ (.cons ru .nil), ⟨_, T2, rfl, _, rfl⟩⟩
    have I1 : Inv X pins σ (upd H s.heap.objs.size (.tup [.int (i : Nat), x])) { s with heap := h2, toks := tk + 1 } :=
      I.turnedNew (ch := [e, it]) (fun b ob hb q => by
        simp only [List.mem_cons, List.not_mem_nil, or_false, not_or] at hb
        exact (sb.2 b hb.1).trans (hk b ob hb.1 hb.2 q)) hf (Nat.le_refl _) new
    refine ⟨.ref s.heap.objs.size, _, I1, rfl, ⟨_, x, rfl, I.hok.fresh (Nat.le_refl _), rfl, fun ys hy => by rw [I.tuple_inj hy hq]; exact hx⟩, ⟨⟨x', ?_⟩, ?_, hne, hai, hea, hlt0⟩, fun b hb => ?_⟩
    · have q : ((i + 1 : Nat) : Int) = (i : Int) + 1 := by omega
      rw [q]; exact he2
    · obtain ⟨⟨o, ho1, ho2, ho3⟩, _⟩ := st'
      exact ⟨o, (sb.2 it (Ne.symm hne)).trans ho1, ho2, ho3⟩
    · have bl : b < s.heap.objs.size := by
        rcases List.mem_cons.mp hb with rfl | hb
        · exact el
        · obtain rfl := List.mem_singleton.mp hb
          exact il
      rw [upd_ne (Nat.ne_of_lt bl)]
      exact (hf b hb).1
  done := by
    intro X hP hw hK hc i pins s σ H E I hf st hg
    subst hP hw hK
    obtain ⟨⟨old, he⟩, hit, hne, hai, hea, hin⟩ := st
    obtain ⟨hni, xs, hq, hn⟩ := hg
    obtain ⟨its, rv, ht, hz⟩ := I.tuple hq
    obtain ⟨f0, f1, f2, f3, f4, f5⟩ := hf it (by simp)
    have hl := rv.length
    have D := Draws.tuple (prog := X.prog) (w := X.w) (A := X.A.in1) (I.ok.hd hc) it a hai its.toArray
    have ei : i = its.toArray.size := by simp; omega
    subst ei
    exact wpAny_pyNext_enum_endD D he ⟨hit, ht⟩ fun h' eb => ⟨rfl, I.turned (t' := s.toks) (fun b o hb q => eb b o hb q) f0 f1 f3 f4 f5⟩
  self := fun A i s Q E ⟨⟨_, he⟩, _⟩ h => wpAny_pyIter_enum he h
def iEnumT (K : PySem.W.Frag) (ta : TA) : TI := fun σ H R => ta σ H fun vs H1 => ∃ a xs, vs = [.ref a] ∧ SqT K H1 a xs ∧ R (IteT K a xs.length) H1
theorem pi_enumT {X : Cx} {e : Expr} {ta : TA} {p pos tpos : Pos} {elts : List Expr} {kk : Nat} (hg : Gl X "enumerate") (hm : X.mg "enumerate" = none) (ha : PA X [e] ta) (hs : starEach [e] X.env = [(false, eval e X.env)] := by rfl) :
    PI X (.Tuple elts kk tpos) (.Call (.Name "enumerate" p) [e] [] pos) (iEnumT X.K ta) := by
  refine ⟨fun pins s σ H R I h => Call_ (ld_blt I hg hm boot_enumerate (PyProof.Rows.callWith_type1 (thn (ha.run pos pins s σ H _ I h) fun us s1 ⟨vs, H1, I1, r1, q1⟩ => ?_) hs rfl))⟩
  obtain ⟨a, xs, ex, hq, q⟩ := q1
  subst ex
  rw [Vals.ref1 r1]
  obtain ⟨its, rv, ht, hz⟩ := I1.tuple hq
  have al : a < s1.heap.objs.size := by obtain ⟨_, g, _⟩ := ht; exact Heap.lt_size g
  refine enum_tuple ht fun h' he hit hk => wpAny_pyIter_enum he ?_
  have I2 : Inv X pins σ H1 { s1 with heap := h' } := I1.kept (t' := s1.toks) hk
  refine ⟨s1.heap.objs.size + 1, [s1.heap.objs.size + 1, s1.heap.objs.size], _, _, H1, rfl, I2, turn_enumT a xs.length (s1.heap.objs.size + 1) s1.heap.objs.size, ⟨⟨.none, he⟩, hit, Nat.succ_ne_self _, Nat.ne_of_lt al, Nat.ne_of_gt (Nat.lt_succ_of_lt al), Nat.zero_le _⟩, fun b hb => ?_, q⟩
  have hle : s1.heap.objs.size ≤ b := by
    rcases List.mem_cons.mp hb with rfl | hb
    · exact Nat.le_succ _
    · obtain rfl := List.mem_singleton.mp hb
      exact Nat.le_refl _
  exact I1.fpOk hle (I1.hok.fresh hle)
/-- the loop over enumerate(t): one turn at a time -/
theorem for_enumT {K : PySem.W.Frag} {a : Addr} {xs : List V} {g : TG} {tb : TS} {D : Ends} {σ : L2.St} {H : Hp} (Pv : Nat → L2.St → Hp → Prop) (h0 : Pv 0 σ H) (hl : ∀ i σ H, Pv i σ H → SqT K H a xs)
    (hs : ∀ i x σ H T, xs[i]? = some x → Pv i σ H → H T = none → g (.ref T) σ (upd H T (.tup [.int (i : Nat), x])) fun σ2 H2 => tb { D with nx := Pv (i + 1), ct := Pv (i + 1), bk := D.nx } σ2 H2) (hd : ∀ σ H, Pv xs.length σ H → D.nx σ H) :
    ∃ W : Nat → Nat → L2.St → Hp → Prop, (∃ m, W 0 m σ H) ∧ ∀ i m σ H, W i m σ H →
      ((IteT K a xs.length).stop i H ∧ D.nx σ H) ∨ ((IteT K a xs.length).go i H ∧ ∃ N : L2.St → Hp → Prop, (∀ σ' H', N σ' H' → ∃ m', m' < m ∧ W (i + 1) m' σ' H') ∧ ∀ x H', (IteT K a xs.length).yld i H x H' → g x σ H' fun σ2 H2 => tb { D with nx := N, ct := N, bk := D.nx } σ2 H2) := by
  refine ⟨fun i m σ H => m = xs.length - i ∧ i ≤ xs.length ∧ Pv i σ H, ⟨_, rfl, Nat.zero_le _, h0⟩, fun i m σ H ⟨em, hi, pr⟩ => ?_⟩
  subst em
  have q := hl i σ H pr
  by_cases hlt : i < xs.length
  · refine .inr ⟨⟨hlt, xs, q, rfl⟩, Pv (i + 1), fun σ' H' p' => ⟨_, by omega, rfl, hlt, p'⟩, fun v H' ⟨T, x, e1, e2, e3, e4⟩ => ?_⟩
    subst e1 e3
    exact hs i x σ H T (e4 xs q) pr e2
  · obtain rfl : i = xs.length := by omega
    exact .inl ⟨⟨Nat.le_refl _, xs, q, rfl⟩, hd σ H pr⟩
end Ru

/-! min(xs, default=None) of a list of ints; a dict whose keys are tuples (int, int, bool) -/
namespace Ru
open PySem PySem.Spec PyProof.Rows L2
theorem reads_ints {h : Heap} : ∀ {vs : List Value} {ns : List Int}, IntsAre vs ns → ∃ as, ReadsAll h vs (ns.map PyData.int) as
  | _, _, .nil => ⟨_, .nil⟩
  | _, _, .cons n t r => let ⟨_, q⟩ := reads_ints r; ⟨_, .cons (.int n t) q⟩
theorem depth_ints : ∀ ns : List Int, PyData.depthAll (ns.map PyData.int) = 0
  | [] => rfl
  | n :: r => by show max 0 (PyData.depthAll (r.map PyData.int)) = 0; rw [depth_ints r]; rfl
theorem alike_ints (ns : List Int) : PySem.W.AlikeAll (ns.map PyData.int) := by
  refine ⟨fun x hx y hy => ?_, fun x hx => ?_⟩
  · obtain ⟨a, _, rfl⟩ := List.mem_map.mp hx
    obtain ⟨b, _, rfl⟩ := List.mem_map.mp hy
    rfl
  · obtain ⟨a, _, rfl⟩ := List.mem_map.mp hx
    exact fun q => nomatch q
section
variable {X : Cx}
def rMinD (K : PySem.W.Frag) : List V → List V → Hp → VK → Prop := fun vs zs H Q => ∃ (p : Addr) (ns : List Int) (d : V), vs = [V.ref p] ∧ zs = [d] ∧ SqL K H p (ns.map V.int) ∧ (ns = [] → Q d H) ∧ ∀ m, m ∈ ns → (∀ y ∈ ns, m ≤ y) → Q (.int m) H
theorem fold_min : ∀ (r : List Int) (n : Int), (r.foldl min n = n ∨ r.foldl min n ∈ r) ∧ r.foldl min n ≤ n ∧ ∀ y ∈ r, r.foldl min n ≤ y
  | [], n => ⟨.inl rfl, Int.le_refl _, fun y h => by cases h⟩
  | k :: r, n => by
    obtain ⟨a, b, c⟩ := fold_min r (min n k)
    simp only [List.foldl_cons, List.mem_cons]
    refine ⟨?_, by omega, ?_⟩
    · rcases a with a | a
      · rw [a]; by_cases q : n ≤ k
        · left; omega
        · right; left; omega
      · right; right; exact a
    · intro y hy
      rcases hy with rfl | hy
      · omega
      · exact c y hy
theorem cr_minD (hc : X.calm = true) (hu : X.A.units + 1 < cLine) : CallRK X (.builtin "min") [Str.ofString "default"] (rMinD X.K) := fun pins s σ H vs zs us ws Q I r rz h => by
  obtain ⟨p, ns, d, rfl, rfl, hs, g0, g1⟩ := h
  obtain ⟨its, rv, hl, _⟩ := I.list hs
  obtain rfl := Vals.ref1 r
  obtain ⟨w1, rfl, e1⟩ := vals1 rz
  obtain ⟨as, ra⟩ := reads_ints (h := s.heap) rv.ints
  refine PySem.W.min_list_default (I.ok.hd hc) hl.isList (by simpa using ra) (alike_ints ns) (by rw [depth_ints]; omega) (fun e h' tk hk => ?_) fun y ys i v h' tk bs e hv rd hk => ?_
  · have en : ns = [] := by simpa using e
    exact ⟨d, H, I.kept hk, e1, g0 en⟩
  · cases ns with
    | nil => cases e
    | cons n r =>
      simp only [List.map_cons, List.cons.injEq] at e
      obtain ⟨rfl, rfl⟩ := e
      rw [PySem.W.minD_ints] at rd
      generalize em : r.foldl min n = m at rd
      have fm := fold_min r n
      rw [em] at fm
      cases rd with
      | int _ t =>
        refine ⟨.int m, H, I.kept hk, ⟨t, rfl⟩, g1 m ?_ fun y hy => ?_⟩
        · rcases fm.1 with q | q
          · rw [q]; exact List.mem_cons_self
          · exact List.mem_cons_of_mem _ q
        · rcases List.mem_cons.mp hy with rfl | hy
          · exact fm.2.1
          · exact fm.2.2 y hy
end
/-! ### the dict of states -/
abbrev SKey := Int × Int × Bool
def skV (k : SKey) : List V := [.int k.1, .int k.2.1, .bl k.2.2]
def skL (k : SKey) : List Leaf := [.num k.1, .num k.2.1, .num (if k.2.2 = true then 1 else 0)]
theorem skL_inj {a b : SKey} (h : skL a = skL b) : a = b := by
  obtain ⟨a1, a2, a3⟩ := a
  obtain ⟨b1, b2, b3⟩ := b
  simp only [skL, List.cons.injEq, Leaf.num.injEq, and_true] at h
  obtain ⟨h1, h2, h3⟩ := h
  subst h1 h2
  cases a3 <;> cases b3 <;> simp at h3 <;> rfl
/-- entries: the key, the address of its tuple, the number stored -/
abbrev SEnt := SKey × Addr × Int
abbrev SRel : List SEnt → List (List Leaf × Addr × Value) → Prop := Paired fun p q => q.1 = skL p.1 ∧ q.2.1 = p.2.1 ∧ RelV (.int p.2.2) q.2.2
def lookS (es : List SEnt) (k : SKey) : Option Int := (es.find? fun e => decide (e.1 = k)).map (·.2.2)
def SDict (P : Program) (w : World) (a : Addr) (es : List SEnt) : HO := .ext fun h => (a == sysModules) = false ∧ es.length ≤ sizeLine ∧ ∃ xs, SRel es xs ∧ ∃ o ds ep, h.get? a = some o ∧ o.ExactDict ∧ o.data = .dict ds ep ∧ ds.toList = xs.map (entryOfKey (tupleKind (leafKind P w))) ∧ (xs.map (·.1)).Nodup
section
variable {P : Program} {w : World}
theorem sdict_ok {H : Hp} {h : Heap} {a : Addr} {es : List SEnt} (lo : (a == sysModules) = false) (hz : es.length ≤ sizeLine) {xs : List (List Leaf × Addr × Value)} (r : SRel es xs) {o : Obj} {ds : Array DictEntry} {ep : Nat} (g : h.get? a = some o) (x : o.ExactDict) (d : o.data = .dict ds ep) (e : ds.toList = xs.map (entryOfKey (tupleKind (leafKind P w)))) (nd : (xs.map (·.1)).Nodup) : ObjOk P w H h a (SDict P w a es) :=
  ⟨⟨lo, hz, xs, r, o, ds, ep, g, x, d, e, nd⟩, ⟨o, g⟩, fun h1 h2 ⟨lo, hz, xs, r, o, ds, ep, g, t⟩ k => ⟨lo, hz, xs, r, o, ds, ep, k o g, t⟩⟩
theorem skey_is {H : Hp} {h : Heap} (ok : HOk P w H h) {b : Addr} {k : SKey} (e : H b = some (.tup (skV k))) : (tupleKind (leafKind P w)).is h (skL k) b := by
  obtain ⟨_, its, rv, o, g, hc, n, hd⟩ := ok b _ e
  refine ⟨o, its.toArray, n, g, hc, hd, ?_⟩
  unfold skV at rv
  cases rv with
  | cons r1 rr =>
    cases rr with
    | cons r2 rr =>
      cases rr with
      | cons r3 rr =>
        cases rr
        obtain ⟨t1, rfl⟩ := r1
        obtain ⟨t2, rfl⟩ := r2
        obtain rfl := r3
        refine .cons ?_ (.cons ?_ (.cons ?_ .nil))
        · exact decide_eq_true rfl
        · exact decide_eq_true rfl
        · exact decide_eq_true rfl
/-- the tuples of the keys stand -/
def KeysAt (H : Hp) (es : List SEnt) : Prop := ∀ e ∈ es, H e.2.1 = some (.tup (skV e.1))
theorem srel_keys : ∀ {es : List SEnt} {xs : List (List Leaf × Addr × Value)}, SRel es xs → (∀ x ∈ xs, ∃ e ∈ es, x.1 = skL e.1 ∧ x.2.1 = e.2.1)
  | _, _, .nil => fun x h => by cases h
  | _, _, .cons (a := e) (b := y) r t => fun x h => by
    rcases List.mem_cons.mp h with rfl | h
    · exact ⟨e, List.mem_cons_self, r.1, r.2.1⟩
    · obtain ⟨e', m, q⟩ := srel_keys t x h
      exact ⟨e', List.mem_cons_of_mem _ m, q⟩
theorem srel_at : ∀ {es : List SEnt} {xs : List (List Leaf × Addr × Value)}, SRel es xs → ∀ k, (lookS es k = none ∧ atKey xs (skL k) = none) ∨ ∃ i p, lookS es k = some i ∧ atKey xs (skL k) = some p ∧ RelV (.int i) p.2
  | _, _, .nil => fun k => .inl ⟨rfl, rfl⟩
  | _, _, .cons (a := e) (b := y) r t => fun k => by
    unfold lookS atKey
    rw [List.find?_cons, List.find?_cons]
    by_cases c : e.1 = k
    · subst c
      rw [decide_eq_true rfl, decide_eq_true r.1]
      exact .inr ⟨_, _, rfl, rfl, r.2.2⟩
    · have c2 : ¬ y.1 = skL k := fun q => c (skL_inj (r.1.symm.trans q))
      rw [decide_eq_false c, decide_eq_false c2]
      exact srel_at t k
theorem srel_snoc : ∀ {es : List SEnt} {xs : List (List Leaf × Addr × Value)} {e : SEnt} {x : List Leaf × Addr × Value}, SRel es xs → x.1 = skL e.1 ∧ x.2.1 = e.2.1 ∧ RelV (.int e.2.2) x.2.2 → SRel (es ++ [e]) (xs ++ [x])
  | _, _, _, _, .nil, h => .cons h .nil
  | _, _, _, _, .cons r t, h => .cons r (srel_snoc t h)
theorem sdict_get {H : Hp} {h : Heap} (ok : HOk P w H h) {a : Addr} {es : List SEnt} (e : H a = some (SDict P w a es)) (ks : KeysAt H es) : (a == sysModules) = false ∧ es.length ≤ sizeLine ∧ ∃ xs, SRel es xs ∧ h.DictOfH (tupleKind (leafKind P w)) a xs := by
  obtain ⟨⟨lo, hz, xs, r, o, ds, ep, g, x, d, l, nd⟩, _, _⟩ := ok a _ e
  refine ⟨lo, hz, xs, r, o, ds, ep, g, x, d, l, fun x hx => ?_, nd⟩
  obtain ⟨e', m, q1, q2⟩ := srel_keys r x hx
  rw [q1, q2]
  exact skey_is ok (ks e' m)
end
section
variable {X : Cx} {pos : Pos}
def tDNewS (P : Program) (w : World) : TE := fun _ H Q => ∀ p, H p = none → Q (.ref p) (upd H p (SDict P w p []))
theorem pe_dnewS : PE X (.Dict [] [] pos) (tDNewS X.prog X.w) := ⟨fun pins s σ H Q I h =>
  wpAny_Dict_empty ⟨.ref s.heap.objs.size, _, I.laid (a := s.heap.objs.size) (o := SDict X.prog X.w s.heap.objs.size []) (t' := s.toks) (fun _ _ q => Heap.get?_push_of_some _ q) (Nat.le_refl _)
    (sdict_ok (beq_eq_false_iff_ne.mpr (Ne.symm (Nat.ne_of_lt I.big))) (Nat.zero_le _) .nil (ep := 0) (ds := #[]) (Heap.get?_push_size _ rfl) ⟨rfl, rfl, rfl⟩ rfl rfl List.nodup_nil), rfl, h _ (I.hok.fresh (Nat.le_refl _))⟩⟩
/-- what a look into the dict asks -/
def AskS (P : Program) (w : World) (x y : V) (H : Hp) (R : Addr → Addr → List SEnt → SKey → Prop) : Prop := ∃ (a b : Addr) (es : List SEnt) (k : SKey), x = .ref a ∧ y = .ref b ∧ H b = some (.tup (skV k)) ∧ H a = some (SDict P w a es) ∧ KeysAt H es ∧ R a b es k
theorem op_inSD (hu : X.A.units + 1 < cLine) : OpR X (compareOp .In) (fun y x H Q => AskS X.prog X.w x y H fun _ _ es k => Q (.bl (lookS es k).isSome) H) := fun pins s σ H y x u v Q I ry rx ⟨a, b, es, k, ex, ey, hb, ha, ks, g⟩ => by
  subst ex ey
  cases rx
  cases ry
  obtain ⟨lo, hz, xs, r, dd⟩ := sdict_get I.hok ha ks
  refine wpAny_in_heap (tupleKind_room_in1 hu) (skey_is I.hok hb) lo dd ?_
  rcases srel_at r k with ⟨q1, q2⟩ | ⟨i, p, q1, q2, q3⟩
  · have g' : Q (.bl (lookS es k).isSome) H := g
    rw [q1] at g'
    rw [q2]
    exact ⟨.bl false, H, I.tok _, rfl, g'⟩
  · have g' : Q (.bl (lookS es k).isSome) H := g
    rw [q1] at g'
    rw [q2]
    exact ⟨.bl true, H, I.tok _, rfl, g'⟩
theorem ix_sd (hu : X.A.units + 1 < cLine) : IxR X (fun x y H Q => AskS X.prog X.w x y H fun _ _ es k => ∃ i, lookS es k = some i ∧ Q (.int i) H) := fun value slice pins s σ H x y v u Q I rx ry ⟨a, b, es, k, ex, ey, hb, ha, ks, i, hi, g⟩ hs => by
  subst ex ey
  cases rx
  cases ry
  obtain ⟨lo, hz, xs, r, dd⟩ := sdict_get I.hok ha ks
  rcases srel_at r k with ⟨q1, q2⟩ | ⟨i', p, q1, q2, q3⟩
  · rw [q1] at hi; cases hi
  · rw [q1] at hi
    obtain rfl := Option.some.inj hi
    exact tail_any dd.typeIs slot_dict_getitem.lookup (wpAny_getItem_heap (tupleKind_room_in1 hu) (skey_is I.hok hb) dd q2 ⟨_, _, I.tok _, q3, g⟩) hs
theorem set_sd (hu : X.A.units + 1 < cLine) : PSet X (fun o i v H Q => AskS X.prog X.w o i H fun a b es k => ∃ n, v = .int n ∧ lookS es k = none ∧ es.length < sizeLine ∧ Q (upd H a (SDict X.prog X.w a (es ++ [(k, b, n)])))) := fun pins s σ H o i v ov iv u Q I ro ri rv ⟨a, b, es, k, ex, ey, hb, ha, ks, n, en, hn, hl, g⟩ => by
  subst ex ey en
  cases ro
  cases ri
  obtain ⟨lo, hz, xs, r, dd⟩ := sdict_get I.hok ha ks
  have lx : xs.length ≤ sizeLine := by rw [← Paired.length r]; exact hz
  refine wpAny_setItem_heap (hsz := lx) (tupleKind_room_in1 hu) (skey_is I.hok hb) dd fun h' dd' sb => ?_
  rcases srel_at r k with ⟨q1, q2⟩ | ⟨i', p, q1, q2, q3⟩
  · rw [storedH_new q2] at dd'
    obtain ⟨q, ds, ep, hq, h2, h3, h4, _, h5⟩ := dd'
    refine ⟨_, d_write I (by rw [ha]; exact True.intro) sb ⟨q, hq⟩ (sdict_ok lo (by rw [List.length_append]; exact hl) (srel_snoc r ⟨rfl, rfl, rv⟩) hq h2 h3 h4 h5), g⟩
  · rw [q1] at hn; cases hn
end
end Ru

/-! The thermostat in plain Lean: the course of a temperature, its stretches, its repetition. -/
namespace Th

structure Par where
  ch : List Int
  g : Int
  lo : Int
  hi : Int
  st : Int
  on0 : Bool

structure Par.Ok (p : Par) : Prop where
  n1 : 1 ≤ p.ch.length
  n24 : p.ch.length ≤ 24
  chb : ∀ c ∈ p.ch, -100 ≤ c ∧ c ≤ 100
  g1 : 1 ≤ p.g
  g200 : p.g ≤ 200
  lohi : p.lo ≤ p.hi
  lob : -1000000000000 ≤ p.lo
  hib : p.hi ≤ 1000000000000
  st1 : -1000000000000 ≤ p.st
  st2 : p.st ≤ 1000000000000

def chAt (ch : List Int) (t : Nat) : Int := ch.getD (t % ch.length) 0
def gon (g : Int) (b : Bool) : Int := if b then g else 0
def sumTo (ch : List Int) (gg : Int) : Nat → Int
  | 0 => 0
  | t + 1 => sumTo ch gg t + chAt ch t + gg
/-- the sum of a whole round -/
def rsum (ch : List Int) (gg : Int) : Int := ch.sum + gg * (ch.length : Int)
/-- the sums of the first ticks of a round -/
def pre (ch : List Int) (gg : Int) (r : Nat) : Int := (ch.take r).sum + gg * (r : Int)

theorem sum_take_succ : ∀ {l : List Int} {i : Nat}, i < l.length → (l.take (i + 1)).sum = (l.take i).sum + l.getD i 0
  | [], i, h => by simp at h
  | a :: r, 0, _ => by simp
  | a :: r, i + 1, h => by
    have ih := sum_take_succ (l := r) (i := i) (by simpa using h)
    simp only [List.take_succ_cons, List.sum_cons, List.getD_cons_succ]
    omega

theorem divmod_succ {n t : Nat} (hn : 0 < n) : (t % n + 1 < n ∧ (t + 1) / n = t / n ∧ (t + 1) % n = t % n + 1) ∨ (t % n + 1 = n ∧ (t + 1) / n = t / n + 1 ∧ (t + 1) % n = 0) := by
  have e := Nat.div_add_mod t n
  have l := Nat.mod_lt t hn
  by_cases c : t % n + 1 < n
  · refine .inl ⟨c, ?_, ?_⟩
    · rw [show t + 1 = n * (t / n) + (t % n + 1) by omega, Nat.mul_add_div hn, Nat.div_eq_of_lt c]; rfl
    · rw [show t + 1 = n * (t / n) + (t % n + 1) by omega, Nat.mul_add_mod, Nat.mod_eq_of_lt c]
  · refine .inr ⟨by omega, ?_, ?_⟩
    · rw [show t + 1 = n * (t / n + 1) by rw [Nat.mul_add]; omega, Nat.mul_div_cancel_left _ hn]
    · rw [show t + 1 = n * (t / n + 1) by rw [Nat.mul_add]; omega, Nat.mul_mod_right]

theorem sumTo_eq {ch : List Int} {gg : Int} (hn : 1 ≤ ch.length) : ∀ t : Nat, sumTo ch gg t = ((t / ch.length : Nat) : Int) * rsum ch gg + pre ch gg (t % ch.length)
  | 0 => by simp [sumTo, pre]
  | t + 1 => by
    have ih := sumTo_eq (ch := ch) (gg := gg) hn t
    have lt := Nat.mod_lt t (show 0 < ch.length by omega)
    show sumTo ch gg t + chAt ch t + gg = _
    rw [ih]
    rcases divmod_succ (n := ch.length) (t := t) (by omega) with ⟨c, e1, e2⟩ | ⟨c, e1, e2⟩
    · rw [e1, e2]
      unfold pre chAt
      rw [sum_take_succ lt, Int.natCast_add, Int.mul_add]
      simp only [Int.natCast_one, Int.mul_one]
      omega
    · rw [e1, e2]
      have h1 := sum_take_succ (l := ch) lt
      rw [c, List.take_length] at h1
      unfold pre chAt rsum
      rw [h1, Int.natCast_add, Int.add_mul]
      have : gg * ((ch.length : Nat) : Int) = gg * ((t % ch.length : Nat) : Int) + gg := by
        rw [show ((ch.length : Nat) : Int) = ((t % ch.length : Nat) : Int) + 1 by omega, Int.mul_add, Int.mul_one]
      simp only [List.take_zero, List.sum_nil, Int.natCast_zero, Int.mul_zero, Int.natCast_one, Int.one_mul]
      omega

theorem chAt_add {ch : List Int} (t : Nat) : chAt ch (t + ch.length) = chAt ch t := by
  unfold chAt
  rw [Nat.add_mod_right]
theorem sumTo_round {ch : List Int} {gg : Int} (hn : 1 ≤ ch.length) (t : Nat) : sumTo ch gg (t + ch.length) = sumTo ch gg t + rsum ch gg := by
  rw [sumTo_eq hn, sumTo_eq hn, Nat.add_mod_right, Nat.add_div_right _ (by omega), Int.natCast_add, Int.add_mul]
  simp only [Int.natCast_one, Int.one_mul]
  omega
theorem sumTo_rounds {ch : List Int} {gg : Int} (hn : 1 ≤ ch.length) (t : Nat) : ∀ k : Nat, sumTo ch gg (t + k * ch.length) = sumTo ch gg t + (k : Int) * rsum ch gg
  | 0 => by simp
  | k + 1 => by
    rw [Nat.succ_mul, ← Nat.add_assoc, sumTo_round hn, sumTo_rounds hn t k, Int.natCast_add, Int.add_mul]
    simp only [Int.natCast_one, Int.one_mul]
    omega

/-! ### the course itself -/
def hst (d lo hi : Int) (b : Bool) : Bool := if d < lo then true else if d > hi then false else b
def stepT (p : Par) (t : Nat) (x : Int × Bool) : Int × Bool :=
  (x.1 + chAt p.ch t + gon p.g x.2, hst (x.1 + chAt p.ch t + gon p.g x.2) p.lo p.hi x.2)
def traj (p : Par) : Nat → Int × Bool
  | 0 => (p.st, hst p.st p.lo p.hi p.on0)
  | t + 1 => stepT p t (traj p t)
def deg (p : Par) (t : Nat) : Int := (traj p t).1
def onn (p : Par) (t : Nat) : Bool := (traj p t).2
theorem deg_succ (p : Par) (t : Nat) : deg p (t + 1) = deg p t + chAt p.ch t + gon p.g (onn p t) := rfl
theorem onn_succ (p : Par) (t : Nat) : onn p (t + 1) = hst (deg p (t + 1)) p.lo p.hi (onn p t) := rfl
/-- how many of the first ticks are heated -/
def Hc (p : Par) : Nat → Int
  | 0 => 0
  | t + 1 => Hc p t + (if onn p t then 1 else 0)

/-- the heater stays from b to the tick before e -/
def Run (p : Par) (b e : Nat) : Prop := ∀ t, b ≤ t → t < e → onn p t = onn p b
theorem run_deg {p : Par} {b : Nat} : ∀ {e : Nat}, b ≤ e → Run p b e → deg p e = deg p b + (sumTo p.ch (gon p.g (onn p b)) e - sumTo p.ch (gon p.g (onn p b)) b)
  | 0, h, _ => by
    have : b = 0 := by omega
    subst this; omega
  | e + 1, h, r => by
    by_cases c : b = e + 1
    · subst c; omega
    · have ih := run_deg (p := p) (b := b) (e := e) (by omega) (fun t h1 h2 => r t h1 (by omega))
      rw [deg_succ, ih, r e (by omega) (by omega)]
      show _ = deg p b + (sumTo p.ch (gon p.g (onn p b)) e + chAt p.ch e + gon p.g (onn p b) - _)
      omega
theorem run_heat {p : Par} {b : Nat} : ∀ {e : Nat}, b ≤ e → Run p b e → Hc p e = Hc p b + (if onn p b then ((e - b : Nat) : Int) else 0)
  | 0, h, _ => by
    have : b = 0 := by omega
    subst this; simp
  | e + 1, h, r => by
    by_cases c : b = e + 1
    · subst c; simp
    · have ih := run_heat (p := p) (b := b) (e := e) (by omega) (fun t h1 h2 => r t h1 (by omega))
      show Hc p e + (if onn p e then 1 else 0) = _
      rw [ih, r e (by omega) (by omega)]
      split <;> omega

/-- e is the first tick behind b in which the heater switches -/
def Nx (p : Par) (b e : Nat) : Prop := b < e ∧ Run p b e ∧ onn p e ≠ onn p b
def Nev (p : Par) (b : Nat) : Prop := ∀ t, b ≤ t → onn p t = onn p b
def sgnOf (b : Bool) : Int := if b then 1 else -1
def bndOf (p : Par) (b : Bool) : Int := if b then p.hi else p.lo
def Bey (sgn bound x : Int) : Prop := sgn * (bound - x) < 0
instance (s b x : Int) : Decidable (Bey s b x) := inferInstanceAs (Decidable (_ < _))
/-- the temperature at t if the heater stays as it is in b -/
def DD (p : Par) (b t : Nat) : Int := deg p b + (sumTo p.ch (gon p.g (onn p b)) t - sumTo p.ch (gon p.g (onn p b)) b)

theorem hst_stay {p : Par} (ok : p.lo ≤ p.hi) {b : Bool} {d : Int} : hst d p.lo p.hi b = b ↔ ¬ Bey (sgnOf b) (bndOf p b) d := by
  unfold hst Bey sgnOf bndOf
  cases b
  · simp only [Bool.false_eq_true, if_false]
    by_cases c : d < p.lo
    · simp only [c, if_true]
      constructor
      · intro h; cases h
      · intro h; exact absurd (show (-1 : Int) * (p.lo - d) < 0 by omega) h
    · simp only [c, if_false]
      constructor
      · intro _ h; omega
      · intro _; split <;> rfl
  · simp only [if_true]
    by_cases c : d < p.lo
    · simp only [c, if_true]
      exact ⟨fun _ h => by omega, fun _ => trivial⟩
    · simp only [c, if_false]
      by_cases c2 : d > p.hi
      · simp only [c2, if_true]
        constructor
        · intro h; cases h
        · intro h; exact absurd (show (1 : Int) * (p.hi - d) < 0 by omega) h
      · simp only [c2, if_false]
        exact ⟨fun _ h => by omega, fun _ => trivial⟩
theorem stay_run {p : Par} (ok : p.lo ≤ p.hi) {b : Nat} : ∀ {e : Nat}, (∀ t, b < t → t < e → ¬ Bey (sgnOf (onn p b)) (bndOf p (onn p b)) (DD p b t)) → Run p b e
  | 0, _ => fun t _ h => by omega
  | e + 1, h => fun t h1 h2 => by
    have ih := stay_run ok (p := p) (b := b) (e := e) (fun t h1 h2 => h t h1 (by omega))
    by_cases c : t < e
    · exact ih t h1 c
    · have te : t = e := by omega
      subst te
      by_cases cb : t = b
      · rw [cb]
      · obtain ⟨u, rfl⟩ : ∃ u, t = u + 1 := ⟨t - 1, by omega⟩
        rw [onn_succ, ih u (by omega) (by omega)]
        refine (hst_stay ok).mpr ?_
        rw [run_deg h1 ih]
        exact h (u + 1) (by omega) (by omega)
theorem nx_of {p : Par} (ok : p.lo ≤ p.hi) {b e : Nat} (h0 : b < e) (h : ∀ t, b < t → t < e → ¬ Bey (sgnOf (onn p b)) (bndOf p (onn p b)) (DD p b t)) (he : Bey (sgnOf (onn p b)) (bndOf p (onn p b)) (DD p b e)) : Nx p b e := by
  have r := stay_run ok h
  refine ⟨h0, r, fun q => ?_⟩
  obtain ⟨u, rfl⟩ : ∃ u, e = u + 1 := ⟨e - 1, by omega⟩
  rw [onn_succ, r u (by omega) (by omega)] at q
  refine (hst_stay ok).mp q ?_
  rw [run_deg (by omega) r]
  exact he
theorem nev_of {p : Par} (ok : p.lo ≤ p.hi) {b : Nat} (h : ∀ t, b < t → ¬ Bey (sgnOf (onn p b)) (bndOf p (onn p b)) (DD p b t)) : Nev p b := fun t h1 =>
  stay_run ok (e := t + 1) (fun t h1 _ => h t h1) t h1 (by omega)

/-! ### the first tick beyond a bound -/
theorem DD_round {p : Par} (ok : p.Ok) (b t k : Nat) : DD p b (t + k * p.ch.length) = DD p b t + (k : Int) * rsum p.ch (gon p.g (onn p b)) := by
  unfold DD
  rw [sumTo_rounds ok.n1]
  omega
/-- general: a temperature that goes on as base + sumTo -/
def Dg (ch : List Int) (gg base : Int) (t : Nat) : Int := base + sumTo ch gg t
theorem Dg_rounds {ch : List Int} {gg base : Int} (hn : 1 ≤ ch.length) (t k : Nat) : Dg ch gg base (t + k * ch.length) = Dg ch gg base t + (k : Int) * rsum ch gg := by
  unfold Dg
  rw [sumTo_rounds hn]
  omega
theorem DD_eq (p : Par) (b t : Nat) : DD p b t = Dg p.ch (gon p.g (onn p b)) (deg p b - sumTo p.ch (gon p.g (onn p b)) b) t := by
  unfold DD Dg
  omega
theorem class_of {n b t : Nat} (hn : 0 < n) (h : b < t) : ∃ i k, i < n ∧ t = b + 1 + i + k * n := by
  refine ⟨(t - b - 1) % n, (t - b - 1) / n, Nat.mod_lt _ hn, ?_⟩
  have e := Nat.div_add_mod (t - b - 1) n
  rw [Nat.mul_comm] at e
  omega
/-- what first_beyond gives -/
def FB (ch : List Int) (gg base : Int) (b : Nat) (sgn bound : Int) (r : Option Nat) : Prop :=
  match r with
  | some e => b < e ∧ Bey sgn bound (Dg ch gg base e) ∧ ∀ t, b < t → t < e → ¬ Bey sgn bound (Dg ch gg base t)
  | none => ∀ t, b < t → ¬ Bey sgn bound (Dg ch gg base t)
theorem bey_rounds {ch : List Int} {gg base sgn bound : Int} (hn : 1 ≤ ch.length) (t k : Nat) : sgn * (bound - Dg ch gg base (t + k * ch.length)) = sgn * (bound - Dg ch gg base t) - (k : Int) * (sgn * rsum ch gg) := by
  rw [Dg_rounds hn]
  have e1 : sgn * (bound - (Dg ch gg base t + (k : Int) * rsum ch gg)) = sgn * (bound - Dg ch gg base t) - sgn * ((k : Int) * rsum ch gg) := by rw [← Int.mul_sub]; congr 1; omega
  rw [e1, Int.mul_left_comm]
theorem fb_none {ch : List Int} {gg base sgn bound : Int} {b : Nat} (hn : 1 ≤ ch.length) (hs : sgn * rsum ch gg ≤ 0) (h : ∀ i, i < ch.length → ¬ Bey sgn bound (Dg ch gg base (b + 1 + i))) : FB ch gg base b sgn bound none := fun t ht => by
  obtain ⟨i, k, hi, rfl⟩ := class_of (n := ch.length) (by omega) ht
  have q := h i hi
  unfold Bey at q ⊢
  rw [bey_rounds hn]
  have : (k : Int) * (sgn * rsum ch gg) ≤ 0 := Int.mul_nonpos_of_nonneg_of_nonpos (Int.natCast_nonneg k) hs
  omega
/-- the tick that the class of the i-th tick gives -/
def cand (ch : List Int) (gg base : Int) (b : Nat) (sgn bound : Int) (i : Nat) : Nat :=
  b + 1 + i + (sgn * (bound - Dg ch gg base (b + 1 + i)) / (sgn * rsum ch gg) + 1).toNat * ch.length
theorem fb_some {ch : List Int} {gg base sgn bound : Int} {b m : Nat} (hn : 1 ≤ ch.length) (hs : 0 < sgn * rsum ch gg) (h : ∀ i, i < ch.length → ¬ Bey sgn bound (Dg ch gg base (b + 1 + i)))
    (hm : ∃ i, i < ch.length ∧ m = cand ch gg base b sgn bound i) (hle : ∀ i, i < ch.length → m ≤ cand ch gg base b sgn bound i) : FB ch gg base b sgn bound (some m) := by
  obtain ⟨i, hi, rfl⟩ := hm
  refine ⟨by unfold cand; omega, ?_, fun t h1 h2 => ?_⟩
  · have q := h i hi
    unfold Bey at q ⊢
    unfold cand
    rw [bey_rounds hn]
    generalize sgn * (bound - Dg ch gg base (b + 1 + i)) = gap at *
    generalize sgn * rsum ch gg = sp at *
    have h0 : 0 ≤ gap / sp := Int.ediv_nonneg (by omega) (by omega)
    rw [Int.toNat_of_nonneg (by omega), Int.add_mul, Int.one_mul]
    have e := Int.mul_ediv_add_emod gap sp
    have l := Int.emod_lt_of_pos gap hs
    rw [Int.mul_comm] at e
    omega
  · obtain ⟨j, k, hj, rfl⟩ := class_of (n := ch.length) (by omega) h1
    intro hb
    have q := h j hj
    have le := hle j hj
    unfold Bey at q hb
    rw [bey_rounds hn] at hb
    unfold cand at le h2
    generalize sgn * (bound - Dg ch gg base (b + 1 + j)) = gap at *
    generalize sgn * rsum ch gg = sp at *
    have h0 : 0 ≤ gap / sp := Int.ediv_nonneg (by omega) (by omega)
    have hk : gap / sp < (k : Int) := Int.ediv_lt_of_lt_mul hs (by omega)
    have hk2 : (gap / sp + 1).toNat ≤ k := by omega
    have := Nat.mul_le_mul_right ch.length hk2
    omega
theorem fb_hit {ch : List Int} {gg base sgn bound : Int} {b i : Nat} (h : ∀ j, j < i → ¬ Bey sgn bound (Dg ch gg base (b + 1 + j))) (hi : Bey sgn bound (Dg ch gg base (b + 1 + i))) : FB ch gg base b sgn bound (some (b + 1 + i)) :=
  ⟨by omega, hi, fun t h1 h2 => by
    have q := h (t - b - 1) (by omega)
    rw [show b + 1 + (t - b - 1) = t by omega] at q
    exact q⟩
/-- how late at most: by the first class -/
theorem fb_late {ch : List Int} {gg base sgn bound : Int} {b e : Nat} (hn : 1 ≤ ch.length) (hs : 0 < sgn * rsum ch gg) (h : FB ch gg base b sgn bound (some e)) (hg : 0 ≤ sgn * (bound - Dg ch gg base (b + 1))) : e ≤ cand ch gg base b sgn bound 0 := by
  obtain ⟨h1, h2, h3⟩ := h
  refine Nat.le_of_not_lt fun hlt => ?_
  refine h3 (cand ch gg base b sgn bound 0) (by unfold cand; omega) hlt ?_
  unfold Bey cand
  rw [bey_rounds hn]
  rw [Nat.add_zero]
  generalize sgn * (bound - Dg ch gg base (b + 1)) = gap at *
  generalize sgn * rsum ch gg = sp at *
  have h0 : 0 ≤ gap / sp := Int.ediv_nonneg (by omega) (by omega)
  rw [Int.toNat_of_nonneg (by omega), Int.add_mul, Int.one_mul]
  have e := Int.mul_ediv_add_emod gap sp
  have l := Int.emod_lt_of_pos gap hs
  rw [Int.mul_comm] at e
  omega
end Th

/-! Stretches, repetition, heating in the long run: plain Lean. -/
namespace Th

def stt (p : Par) (t : Nat) : Nat × Int × Bool := (t % p.ch.length, deg p t, onn p t)
theorem traj_again {p : Par} {a l : Nat} (h : stt p a = stt p l) : ∀ j, traj p (l + j) = traj p (a + j)
  | 0 => by
    unfold stt at h
    injection h with h1 h2
    injection h2 with h2 h3
    exact Prod.ext h2.symm h3.symm
  | j + 1 => by
    have ih := traj_again h j
    unfold stt at h
    injection h with h1 h2
    show stepT p (l + j) (traj p (l + j)) = stepT p (a + j) (traj p (a + j))
    rw [ih]
    have e : chAt p.ch (l + j) = chAt p.ch (a + j) := by
      unfold chAt
      rw [Nat.add_mod l j, Nat.add_mod a j, h1]
    unfold stepT
    rw [e]
/-- behind a tick all is the same again T ticks later -/
def Per (p : Par) (f T : Nat) : Prop := ∀ t, f ≤ t → traj p (t + T) = traj p t
theorem per_of {p : Par} {a l : Nat} (h : stt p a = stt p l) (hl : a ≤ l) : Per p a (l - a) := fun t ht => by
  have e := traj_again h (t - a)
  rw [show l + (t - a) = t + (l - a) by omega, show a + (t - a) = t by omega] at e
  exact e
theorem Per.times {p : Par} {f T : Nat} (h : Per p f T) {t : Nat} (ht : f ≤ t) : ∀ m, traj p (t + m * T) = traj p t
  | 0 => by simp
  | m + 1 => by
    rw [Nat.succ_mul, ← Nat.add_assoc, h (t + m * T) (by omega)]
    exact h.times ht m
theorem Per.heat {p : Par} {f T : Nat} (h : Per p f T) : ∀ j, Hc p (f + j + T) - Hc p (f + j) = Hc p (f + T) - Hc p f
  | 0 => rfl
  | j + 1 => by
    have ih := h.heat j
    have e : onn p (f + j + T) = onn p (f + j) := congrArg Prod.snd (h (f + j) (by omega))
    have e1 : Hc p (f + (j + 1) + T) = Hc p (f + j + T) + (if onn p (f + j + T) then 1 else 0) := by
      rw [show f + (j + 1) + T = (f + j + T) + 1 by omega]; rfl
    have e2 : Hc p (f + (j + 1)) = Hc p (f + j) + (if onn p (f + j) then 1 else 0) := rfl
    rw [e1, e2, e]
    omega
theorem Per.heats {p : Par} {f T : Nat} (h : Per p f T) {t : Nat} (ht : f ≤ t) : ∀ m : Nat, Hc p (t + m * T) = Hc p t + (m : Int) * (Hc p (f + T) - Hc p f)
  | 0 => by simp
  | m + 1 => by
    have ih := h.heats ht m
    have e := h.heat (t + m * T - f)
    rw [show f + (t + m * T - f) = t + m * T by omega] at e
    rw [Nat.succ_mul, ← Nat.add_assoc, Int.natCast_add, Int.add_mul]
    simp only [Int.natCast_one, Int.one_mul]
    omega
theorem Per.mono {p : Par} {f f' T : Nat} (h : Per p f T) (hf : f ≤ f') : Per p f' T := fun t ht => h t (by omega)

/-! ### the begins of the stretches -/
def Chain (p : Par) (bs : List Nat) : Prop := bs[0]? = some 0 ∧ ∀ i a c, bs[i]? = some a → bs[i + 1]? = some c → Nx p a c
theorem Chain.ne {p : Par} {bs : List Nat} (h : Chain p bs) : 0 < bs.length := by
  have := h.1
  cases bs with
  | nil => simp at this
  | cons a r => simp
theorem at_some {bs : List Nat} {i : Nat} (h : i < bs.length) : ∃ a, bs[i]? = some a := ⟨bs[i], by simp [h]⟩
theorem at_lt {α : Type} {bs : List α} {i : Nat} {a : α} (h : bs[i]? = some a) : i < bs.length := (List.getElem?_eq_some_iff.mp h).1
theorem Chain.lt {p : Par} {bs : List Nat} (h : Chain p bs) {i : Nat} : ∀ {d a c : Nat}, bs[i]? = some a → bs[i + d + 1]? = some c → a < c
  | 0, a, c, h1, h2 => (h.2 i a c h1 h2).1
  | d + 1, a, c, h1, h2 => by
    obtain ⟨m, hm⟩ := at_some (bs := bs) (i := i + d + 1) (by have := at_lt h2; omega)
    have q1 := h.lt (d := d) h1 hm
    have q2 := (h.2 (i + d + 1) m c hm h2).1
    omega
theorem Chain.lt' {p : Par} {bs : List Nat} (h : Chain p bs) {i j a c : Nat} (hij : i < j) (h1 : bs[i]? = some a) (h2 : bs[j]? = some c) : a < c := by
  refine h.lt (i := i) (d := j - i - 1) h1 ?_
  rw [show i + (j - i - 1) + 1 = j by omega]
  exact h2
theorem Chain.le' {p : Par} {bs : List Nat} (h : Chain p bs) {i j a c : Nat} (hij : i ≤ j) (h1 : bs[i]? = some a) (h2 : bs[j]? = some c) : a ≤ c := by
  by_cases e : i = j
  · subst e; rw [h1] at h2; cases h2; exact Nat.le_refl _
  · exact Nat.le_of_lt (h.lt' (by omega) h1 h2)
theorem Chain.single (p : Par) : Chain p [0] := ⟨rfl, fun i a c h1 h2 => by simp at h2⟩
theorem Chain.snoc {p : Par} {bs : List Nat} {b e : Nat} (h : Chain p bs) (hb : bs[bs.length - 1]? = some b) (n : Nx p b e) : Chain p (bs ++ [e]) := by
  have ne := h.ne
  refine ⟨by rw [List.getElem?_append_left ne]; exact h.1, fun i a c h1 h2 => ?_⟩
  by_cases hi : i + 1 < bs.length
  · rw [List.getElem?_append_left (by omega)] at h1
    rw [List.getElem?_append_left hi] at h2
    exact h.2 i a c h1 h2
  · have l2 := at_lt h2
    rw [List.length_append, List.length_singleton] at l2
    have ei : i = bs.length - 1 := by omega
    subst ei
    rw [List.getElem?_append_left (by omega), hb] at h1
    rw [show bs.length - 1 + 1 = bs.length by omega, List.getElem?_append_right (Nat.le_refl _), Nat.sub_self] at h2
    cases h1
    cases h2
    exact n

/-! ### the temperatures at which stretches begin -/
theorem onn_hst (p : Par) : ∀ t, ∃ b, onn p t = hst (deg p t) p.lo p.hi b
  | 0 => ⟨p.on0, rfl⟩
  | t + 1 => ⟨onn p t, rfl⟩
theorem getD_mem {l : List Int} {i : Nat} (h : i < l.length) : l.getD i 0 ∈ l := by
  have e : l.getD i 0 = l[i] := by simp [List.getD, h]
  rw [e]
  exact List.getElem_mem h
theorem chAt_bd {p : Par} (ok : p.Ok) (t : Nat) : -100 ≤ chAt p.ch t ∧ chAt p.ch t ≤ 100 :=
  ok.chb _ (getD_mem (Nat.mod_lt _ (by have := ok.n1; omega)))
theorem nx_range {p : Par} (ok : p.Ok) {b e : Nat} (n : Nx p b e) : (onn p e = true → p.lo - 100 ≤ deg p e ∧ deg p e < p.lo) ∧ (onn p e = false → p.hi < deg p e ∧ deg p e ≤ p.hi + 300) := by
  obtain ⟨h1, r, h2⟩ := n
  obtain ⟨u, rfl⟩ : ∃ u, e = u + 1 := ⟨e - 1, by omega⟩
  have eu := r u (by omega) (by omega)
  rw [← eu] at h2
  obtain ⟨b', hb'⟩ := onn_hst p u
  have c := chAt_bd ok u
  have g1 := ok.g1
  have g2 := ok.g200
  have lh := ok.lohi
  have es : onn p (u + 1) = hst (deg p (u + 1)) p.lo p.hi (onn p u) := rfl
  have ed := deg_succ p u
  cases o : onn p u with
  | false =>
    rw [o] at h2 hb' es ed
    refine ⟨fun h3 => ?_, fun h3 => absurd h3 (by simpa using h2)⟩
    rw [h3] at es
    unfold hst at es hb'
    unfold gon at ed
    simp only [Bool.false_eq_true, if_false] at ed
    by_cases c1 : deg p (u + 1) < p.lo
    · by_cases c2 : deg p u < p.lo
      · rw [if_pos c2] at hb'; cases hb'
      · omega
    · rw [if_neg c1] at es
      split at es <;> cases es
  | true =>
    rw [o] at h2 hb' es ed
    refine ⟨fun h3 => absurd h3 (by simpa using h2), fun h3 => ?_⟩
    rw [h3] at es
    unfold hst at es hb'
    unfold gon at ed
    simp only [if_true] at ed
    by_cases c1 : deg p (u + 1) < p.lo
    · rw [if_pos c1] at es; cases es
    · rw [if_neg c1] at es
      by_cases c2 : deg p (u + 1) > p.hi
      · by_cases c3 : deg p u < p.lo
        · omega
        · rw [if_neg c3] at hb'
          by_cases c4 : deg p u > p.hi
          · rw [if_pos c4] at hb'; cases hb'
          · omega
      · rw [if_neg c2] at es; cases es
/-! ### few stretches -/
theorem pigeon : ∀ (M : Nat) {l : List Nat}, l.Nodup → (∀ x ∈ l, x < M) → l.length ≤ M
  | 0, l, _, h => by
    cases l with
    | nil => simp
    | cons a r => exact absurd (h a List.mem_cons_self) (by omega)
  | M + 1, l, nd, h => by
    by_cases c : M ∈ l
    · have := pigeon M (l := l.erase M) (nd.erase M) (fun x hx => by
        have := (nd.mem_erase_iff).mp hx
        have := h x this.2
        omega)
      rw [List.length_erase_of_mem c] at this
      omega
    · have := pigeon M nd (fun x hx => by
        have := h x hx
        have : x ≠ M := fun e => c (e ▸ hx)
        omega)
      omega
def code (p : Par) (t : Nat) : Nat := if onn p t then (t % p.ch.length) * 100 + (p.lo - 1 - deg p t).toNat else 2400 + (t % p.ch.length) * 300 + (deg p t - p.hi - 1).toNat
def Rng (p : Par) (e : Nat) : Prop := (onn p e = true → p.lo - 100 ≤ deg p e ∧ deg p e < p.lo) ∧ (onn p e = false → p.hi < deg p e ∧ deg p e ≤ p.hi + 300)
theorem code_lt {p : Par} (ok : p.Ok) {t : Nat} (r : Rng p t) : code p t < 9600 := by
  have l := Nat.mod_lt t (show 0 < p.ch.length by have := ok.n1; omega)
  have := ok.n24
  unfold code
  cases o : onn p t
  · have := r.2 o; simp; omega
  · have := r.1 o; simp; omega
theorem code_inj {p : Par} (ok : p.Ok) {t u : Nat} (r : Rng p t) (r' : Rng p u) (h : code p t = code p u) : stt p t = stt p u := by
  have l := Nat.mod_lt t (show 0 < p.ch.length by have := ok.n1; omega)
  have l' := Nat.mod_lt u (show 0 < p.ch.length by have := ok.n1; omega)
  have := ok.n24
  unfold code at h
  unfold stt
  cases o : onn p t <;> cases o' : onn p u <;> rw [o, o'] at h
  · have a := r.2 o
    have b := r'.2 o'
    simp at h
    have e1 : t % p.ch.length = u % p.ch.length := by omega
    have e2 : deg p t = deg p u := by omega
    rw [e1, e2]
  · have a := r.2 o
    have b := r'.1 o'
    simp at h
    omega
  · have a := r.1 o
    have b := r'.2 o'
    simp at h
    omega
  · have a := r.1 o
    have b := r'.1 o'
    simp at h
    have e1 : t % p.ch.length = u % p.ch.length := by omega
    have e2 : deg p t = deg p u := by omega
    rw [e1, e2]
/-- the first m begins have different states -/
def Dis (p : Par) (bs : List Nat) (m : Nat) : Prop := ∀ i j a c, i < j → j < m → bs[i]? = some a → bs[j]? = some c → stt p a ≠ stt p c
theorem few {p : Par} (ok : p.Ok) {bs : List Nat} (h : Chain p bs) {m : Nat} (hm : m ≤ bs.length) (d : Dis p bs m) : m ≤ 9601 := by
  have key := pigeon 9600 (l := ((bs.take m).drop 1).map (code p)) ?_ ?_
  · simp only [List.length_map, List.length_drop, List.length_take] at key
    omega
  · rw [List.nodup_iff_pairwise_ne, List.pairwise_map, List.pairwise_iff_getElem]
    intro i j hi hj hij
    simp only [List.length_drop, List.length_take] at hi hj
    simp only [List.getElem_drop, List.getElem_take]
    intro e
    have hr : ∀ k, (hk : 1 + k < bs.length) → Rng p bs[1 + k] := fun k hk =>
      nx_range ok (h.2 k bs[k] bs[1 + k] (by simp [show k < bs.length by omega]) (by rw [Nat.add_comm k 1]; simp [hk]))
    exact d (1 + i) (1 + j) bs[1 + i] bs[1 + j] (by omega) (by omega) (by simp [show 1 + i < bs.length by omega]) (by simp [show 1 + j < bs.length by omega]) (code_inj ok (hr i (by omega)) (hr j (by omega)) e)
  · intro x hx
    obtain ⟨y, hy, rfl⟩ := List.mem_map.mp hx
    obtain ⟨k, hk, rfl⟩ := List.mem_iff_getElem.mp hy
    simp only [List.length_drop, List.length_take] at hk
    simp only [List.getElem_drop, List.getElem_take]
    exact code_lt ok (nx_range ok (h.2 k bs[k] bs[1 + k] (by simp [show k < bs.length by omega]) (by rw [Nat.add_comm k 1]; simp [show 1 + k < bs.length by omega])))

/-! ### how long a stretch can be -/
def SB : Nat := 50000000000000
/-- a begin: the start, or where the heater has just switched -/
def Beg (p : Par) (b : Nat) : Prop := b = 0 ∨ Rng p b
theorem beg_deg {p : Par} (ok : p.Ok) {b : Nat} (h : Beg p b) : (onn p b = true → -1000000000100 ≤ deg p b) ∧ (onn p b = false → deg p b ≤ 1000000000300) := by
  have := ok.lob
  have := ok.hib
  have := ok.st1
  have := ok.st2
  rcases h with rfl | h
  · have e : deg p 0 = p.st := rfl
    rw [e]
    constructor <;> intro _ <;> omega
  · constructor
    · intro o; have := h.1 o; omega
    · intro o; have := h.2 o; omega
def sgB (p : Par) (b : Nat) : Int := sgnOf (onn p b)
def bdB (p : Par) (b : Nat) : Int := bndOf p (onn p b)
def ggB (p : Par) (b : Nat) : Int := gon p.g (onn p b)
def baB (p : Par) (b : Nat) : Int := deg p b - sumTo p.ch (ggB p b) b
theorem Dg_B (p : Par) (b t : Nat) : Dg p.ch (ggB p b) (baB p b) t = DD p b t := by
  unfold Dg baB DD ggB
  omega
theorem late {p : Par} (ok : p.Ok) {b e : Nat} (hb : Beg p b) (h : FB p.ch (ggB p b) (baB p b) b (sgB p b) (bdB p b) (some e)) : e ≤ b + SB := by
  have n1 := ok.n1
  have n24 := ok.n24
  by_cases hg : sgB p b * (bdB p b - Dg p.ch (ggB p b) (baB p b) (b + 1)) < 0
  · obtain ⟨h1, h2, h3⟩ := h
    have : e ≤ b + 1 := Nat.le_of_not_lt fun hlt => h3 (b + 1) (by omega) hlt hg
    unfold SB
    omega
  · by_cases hs : 0 < sgB p b * rsum p.ch (ggB p b)
    · have l := fb_late n1 hs h (by omega)
      have gp : sgB p b * (bdB p b - Dg p.ch (ggB p b) (baB p b) (b + 1)) ≤ 2000000000500 := by
        rw [Dg_B]
        have c := chAt_bd ok b
        have bd := beg_deg ok hb
        have := ok.g1
        have := ok.g200
        have := ok.lob
        have := ok.hib
        have es : sumTo p.ch (gon p.g (onn p b)) (b + 1) = sumTo p.ch (gon p.g (onn p b)) b + chAt p.ch b + gon p.g (onn p b) := rfl
        unfold DD
        rw [es]
        cases o : onn p b
        · have q := bd.2 o
          unfold sgB bdB sgnOf bndOf gon
          rw [o]
          simp
          omega
        · have q := bd.1 o
          unfold sgB bdB sgnOf bndOf gon
          rw [o]
          simp
          omega
      unfold cand at l
      rw [Nat.add_zero] at l
      generalize sgB p b * (bdB p b - Dg p.ch (ggB p b) (baB p b) (b + 1)) = gap at *
      generalize sgB p b * rsum p.ch (ggB p b) = sp at *
      have q1 : gap / sp ≤ gap := Int.ediv_le_self _ (by omega)
      have q2 : (gap / sp + 1).toNat ≤ 2000000000501 := by omega
      have q3 := Nat.mul_le_mul q2 n24
      unfold SB
      omega
    · obtain ⟨h1, h2, h3⟩ := h
      have : e ≤ b + p.ch.length := Nat.le_of_not_lt fun hlt => by
        refine fb_none (b := b) (bound := bdB p b) (base := baB p b) n1 (show sgB p b * rsum p.ch (ggB p b) ≤ 0 by omega) (fun i hi => h3 (b + 1 + i) (by omega) (by omega)) e h1 h2
      unfold SB
      omega
/-- FB says when the heater switches -/
theorem fb_nx {p : Par} (ok : p.Ok) {b e : Nat} (h : FB p.ch (ggB p b) (baB p b) b (sgB p b) (bdB p b) (some e)) : Nx p b e := by
  obtain ⟨h1, h2, h3⟩ := h
  refine nx_of ok.lohi h1 (fun t a c => ?_) ?_
  · have := h3 t a c; rw [Dg_B] at this; exact this
  · rw [Dg_B] at h2; exact h2
theorem fb_nev {p : Par} (ok : p.Ok) {b : Nat} (h : FB p.ch (ggB p b) (baB p b) b (sgB p b) (bdB p b) none) : Nev p b := by
  refine nev_of ok.lohi (fun t a => ?_)
  have := h t a; rw [Dg_B] at this; exact this
theorem chain_beg {p : Par} (ok : p.Ok) {bs : List Nat} (h : Chain p bs) {i b : Nat} (hi : bs[i]? = some b) : Beg p b := by
  cases i with
  | zero => rw [h.1] at hi; cases hi; exact .inl rfl
  | succ i =>
    obtain ⟨a, ha⟩ := at_some (bs := bs) (i := i) (by have := at_lt hi; omega)
    exact .inr (nx_range ok (h.2 i a b ha hi))
end Th

set_option maxHeartbeats 2000000
/-! an own exception over own bases over ValueError: def __init__(self, index): super().__init__(f'..{index}'); self.index = index -/
namespace PySem
namespace IxX
open PySem.W PySem.Calls PyProof.Rows PySem.HandSPX
/-! ### the text of __init__ -/
def iA (p1 p2 : Pos) : Arguments := { posonlyargs := [], args := [{ arg := "self", annotation := none, pos := p1 }, { arg := "index", annotation := none, pos := p2 }], vararg := none, kwonlyargs := [], kw_defaults := [], kwarg := none, defaults := [] }
def iB (msg : Str) (k : Nat) (r1 r2 r3 r4 r5 r6 r7 r8 r9 q1 q2 q3 q4 : Pos) : List Stmt :=
  [.Expr (.Call (.Attribute (.Call (.Name "super" r1) [] [] r2) "__init__" r3) [.JoinedStr [.Constant (.str msg) k r4, .FormattedValue (.Name "index" r5) (-1) none r6] r7] [] r8) r9,
   .Assign [.Attribute (.Name "self" q1) "index" q2] (.Name "index" q3) q4]
def iS : Scope := { kind := .function, names := [(PySem.Str.ofString "self", .local), (PySem.Str.ofString "index", .local), (PySem.Str.ofString "__class__", .free), (PySem.Str.ofString "super", .globalImplicit)], isGenerator := false, isCoroutine := false, more := [] }
/-- what the written part says of such a class, named nm, at C, and of its __init__, at fI -/
structure IxTxt (P : Program) (K : Frag) (mg : Str → Option Value) (nm : Str) (C fI : Addr) : Prop where
  gC : mg nm = some (.ref C)
  cls : ∃ nm q N bs bm sn sub ab col dd k0 k1 k2 k3 k5, K.lookup C = some (excClassObj nm q C N bs bm true sn sub ab col dd k0 k1 k2 k3 k5 "ValueError.__new__") ∧ refsVE bm = true
  sa : findIn K (.ref C) "__setattr__" = some (some (.builtin "object.__setattr__"))
  ga : findIn K (.ref C) "__getattribute__" = some (some (.builtin "BaseException.__getattribute__"))
  gg : findIn K (.ref C) "__getattr__" = some none
  noN : findIn K (.ref C) "index" = some none
  iC : findIn K (.ref C) "__init__" = some (some (.ref fI))
  tC : typeIn K (.ref fI) = some (.type "function")
  kC : keepIn K (.ref C) = true
  exC : subIn K (.ref C) (.type "BaseException") = some true
  tyC : typeIn K (.ref C) = some (.type "type")
  hdC : hasDictIn K C = true
  mr : mroIn K C (.ref C) = some true
  su : ks_superIn K C C "__init__" = some (some (.builtin "ValueError.__init__"))
  ve : subIn K (.ref C) (.type "ValueError") = some true
  any : nsIn K cStatics "thirdparty.any" = some none
  noS : mg "super" = none
  top : (P.main.scope.names.lookup ("super" : Str)).isSome = false
  fn : ∃ (oc : Value) (od : Option Addr) (qual : Str) (doc pm : Value) (an : Option Addr) (cda cc : Addr) (ct : Value) (osl : Array (Option Value)) (msg : Str) (k : Nat) (p1 p2 r1 r2 r3 r4 r5 r6 r7 r8 r9 q1 q2 q3 q4 : Pos),
    (r3.endLine == r8.line) = true ∧ K.lookup fI = some ⟨oc, od, .func (ksFn "__init__" qual (iA p1 p2) (iB msg k r1 r2 r3 r4 r5 r6 r7 r8 r9 q1 q2 q3 q4) iS .none .none doc pm an (.ref cda) ct cc), osl⟩ ∧ codeIn K (.ref cda) qual = true ∧ msg.length ≤ 1000 ∧
    (∃ (ccl : Value) (cdd : Option Addr) (vs : Array Value) (ccs : Array (Option Value)) (file : Str) (tf : Tok), K.lookup cda = some ⟨ccl, cdd, .fields vs, ccs⟩ ∧ vs[2]? = some (.str file tf) ∧ ((P.main.file : Str) == file) = true) ∧
    (∃ (cl : Value) (cld : Option Addr) (csl : Array (Option Value)), K.lookup cc = some ⟨cl, cld, .cell (some (.ref C)), csl⟩)
theorem one_size (v : Value) : [v].length ≤ sizeLine := by
  rw [sizeLine_eq]
  exact (by decide : 1 ≤ 16777216)
theorem kept_but {K : Frag} {h h' : Heap} {x : Addr} (X : K.In h) (hx : K.lookup x = none) (k : ∀ b o, b ≠ x → h.get? b = some o → h'.get? b = some o) : K.In h' := fun a o e =>
  k a o (fun z => by rw [z, hx] at e; cases e) (X a o e)
theorem ns_but {h h' : Heap} {L x : Addr} {m : Str → Option Value} (n : h.Ns L m) (hx : L ≠ x) (k : ∀ b o, b ≠ x → h.get? b = some o → h'.get? b = some o) : h'.Ns L m := by
  obtain ⟨o, es, ep, h1, h2⟩ := n
  exact ⟨o, es, ep, k _ _ hx h1, h2⟩
/-- what __init__ leaves of a fresh exception at x -/
structure InitEnd (h h' : Heap) (x C dx t1 : Addr) (v : Value) : Prop where
  keep : ∀ b o, b ≠ x → h.get? b = some o → h'.get? b = some o
  obj : h'.get? x = some { cls := .ref C, dict := some dx, data := .fields #[.ref t1, .none, .none, .none, .bool false, .none] }
  dbig : h.objs.size ≤ dx
  dne : dx ≠ x
  ns : h'.Ns1 dx (fun y => if y = "index" then some v else none)
section
variable {prog : Program} {w : World} {A : Around} {E : Value → Shared → Prop} {h : Heap} {g : Array GenState} {d : Drawn} {t : Nat} {os : OsState}
/-- the bound __init__ of ValueError is called: nothing of it is told but that the exception stands anew -/
theorem call_mw {nm q : Str} {C N u e t0 : Addr} {bs bm : List Value} {hdct : Bool} {sn : List Str} {sub : List Value} {ab : Bool} {col : Option Bool} {dd : Option Addr} {k0 k1 k2 k3 k5 : Option Value} {rest : List Value} {Q : Value → Shared → Prop}
    (hC : h.get? C = some (excClassObj nm q C N bs bm hdct sn sub ab col dd k0 k1 k2 k3 k5 "ValueError.__new__")) (he : h.get? e = some (excO C t0)) (hu : h.get? u = some (kxs_mw "ValueError.__init__" e)) (hz : rest.length ≤ sizeLine)
    (hq : ∀ h' t1, (∀ b o, b ≠ e → h.get? b = some o → h'.get? b = some o) → h'.get? e = some (excO C t1) → Q .none ⟨h', g, d, t, os⟩) :
    wpAny (model prog w) A (call (.ref u) rest) Q E ⟨h, g, d, t, os⟩ := by
  have F := F.excBase_ValueError
  refine wpAny_call (codeAny_of_tree ?_)
  show wpAny _ A.in1 (callAny (.ref u) ⟨rest, []⟩) _ _ _
  simp only [callAny]
  refine wpAny_bind (wpAny_load hu ?_)
  have isMw : (Value.type "method-wrapper" == Value.type "method"
      || Value.type "method-wrapper" == Value.type "builtin_function_or_method"
      || Value.type "method-wrapper" == Value.type "method-wrapper") = true := by decide
  simp only [kxs_mw, isMw, if_true]
  refine KFB.if_so (by decide) ?_
  refine wpAny_bind (check_bound_init F.toExcCallFacts hC he rfl ?_)
  refine wpAny_bind (wpAny_pure (wpAny_pure ?_))
  refine ⟨plainId_quiet F.init.plain _, codeAny_builtin F.initEntry ?_⟩
  exact exc_init_tree (cls := .ref C) (t0 := t0) (dv := none) (c2 := .none) (c3 := .none) (b4 := .bool false) he hz (fun h' k e' _ => hq h' h.objs.size k e')
end
section
variable {prog : Program} {w : World} {A : Around} {E : Value → Shared → Prop} {R : Result → Shared → Prop} {s : Shared} {K : Frag} {mg : Str → Option Value} {nm : Str} {C fI : Addr}
theorem ix_init (T : IxTxt prog K mg nm C fI) {x t0 : Addr} {i : Int} {ti : Tok} (X : K.In s.heap) (G : s.heap.Ns mainGlobals mg) (B : ∃ mb, s.heap.Ns builtinsNs mb ∧ ∀ y : Str, y ≠ "__name__" → mb y = bootBuiltins y) (hlim : s.heap.NoLimit)
    (hx : s.heap.get? x = some (excO C t0)) (hnx : K.lookup x = none) (hroom : A.depth < recursionLimit) (hi : i.natAbs.log2 < 1920)
    (hq : ∀ h' tk dx t1, InitEnd s.heap h' x C dx t1 (.int i ti) → R (.ok (.ret .none)) { s with heap := h', toks := tk }) :
    codeAny (model prog w) A (.call (.ref fI) ⟨[.ref x, .int i ti], []⟩) R s := by
  obtain ⟨oc, od, qual, doc, pm, an, cda, cc, ct, osl, msg, kk, p1, p2, r1, r2, r3, r4, r5, r6, r7, r8, r9, q1, q2, q3, q4, hline, ho, hcd, hmsg, ⟨ccl, cdd, vs, ccs, file, tf, hcode, hvs, hfile⟩, cl, cld, csl, hcell⟩ := T.fn
  obtain ⟨nm', q', N, bs, bm, sn, sub, ab, col, dd, k0, k1, k2, k3, k5, hC, hbm⟩ := T.cls
  have hcl : clsIn K C = some { name := nm', bases := bs, mro := .ref C :: bm, ns := N, qualname := q', hasDict := true, slotNames := sn, subclasses := sub, abstract := ab, collection := col, hasDel := false } := by unfold clsIn; rw [hC] <;> rfl
  obtain ⟨mb, Bn, Bb⟩ := B
  obtain ⟨hh, g, d, tk, os⟩ := s
  refine ks_codeAny_call_defAt (binds := [("self", .ref x), ("index", .int i ti)]) hroom (X _ _ ho) rfl hlim (codeRec_of X hcd) rfl (BindsTo.of_eq (by first | rfl | with_unfolding_all rfl)) (fun y hy => ?_) (fun y hy => ?_) (fun h₁ hns k => ?_)
  · have hy : y ∈ iS.names := hy
    have z : ∀ u ∈ iS.names, u.2 ≠ NameKind.cell := by decide
    exact z y hy
  · simp only [List.mem_cons, List.not_mem_nil, or_false] at hy
    rcases hy with rfl | rfl
    · rfl
    · rfl
  have X₁ : K.In h₁ := X.keeps k
  have hxL : hh.objs.size ≠ x := Nat.ne_of_gt (Heap.lt_size hx)
  refine ks_wpAt_execs_cons ?_
  refine ks_wpAt_Expr_any ?_
  rw [arm_eval_Call]
  refine wpAt_bind ?_
  refine ks_wpAt_super_base (env := callEnv _ _ _) (by rfl) (by rfl) (by decide) rfl (X₁ _ _ ho) rfl rfl rfl (X₁ _ _ hcode) rfl hvs hfile T.top ?_
  obtain ⟨oD, hD1, hD2⟩ : ∃ oD, h₁.get? C = some oD ∧ oD.data = .cls { name := nm', bases := bs, mro := .ref C :: bm, ns := N, qualname := q', hasDict := true, slotNames := sn, subclasses := sub, abstract := ab, collection := col, hasDel := false } := ⟨_, X₁ _ _ hC, rfl⟩
  have hx₁ := k _ _ hx
  have hxC : x ≠ C := fun z => by rw [z, hC] at hnx; cases hnx
  refine ks_loadName_global (by rfl) (by rfl) (loadGlobal_builtin (mg := mg) (mb := mb) (v := .type "super") (Heap.Ns.keeps G k) T.noS (Heap.Ns.keeps Bn k) ((Bb _ (by decide +kernel)).trans (by first | boot_by_name | rfl | kernel_rfl)) ⟨rfl, ?_⟩)
  refine wpAny_loadName_free (by rfl) (by rfl) (by rfl) ⟨_, X₁ _ _ hcell, rfl⟩ ?_
  refine wpAny_loadName_local (by rfl) (by rfl) hns (by rfl) ?_
  refine ks_wpAny_isType_cls hD1 hD2 ⟨rfl, ?_⟩
  refine ks_wpAny_call_super hD1 hD2 hx₁ rfl (fun c e => by cases e) (looks_mroIn X₁ T.mr) (fun h₂ e k₂ => ?_)
  have X₂ : K.In h₂ := X₁.keeps k₂
  have hx₂ := k₂ _ _ hx₁
  have hI : Looks (model prog w) h₂ (isInstance (.ref x) (.type "ValueError")) true :=
    Looks.andThen (W.InstAt.type (C := C) (od := none) ⟨hx₂, rfl, rfl, trivial⟩) (looks_subIn X₂ T.ve)
  have hmr : Looks (model prog w) h₂ (mroOf (.ref C)) (Value.ref C :: bm) := (looks_clsIn X₂ hcl).andThen .now
  have hsu : alongIn K "__init__" (((Value.ref C :: bm).dropWhile (· != .ref C)).drop 1) = some (some (.builtin "ValueError.__init__")) := by
    have z := T.su
    unfold ks_superIn at z
    rw [hcl] at z
    exact z
  refine wpAt_of_wpAny (wpAny_bind (wpAny_standAt ?_))
  have hpos : methodCallPos true (.Call (.Name "super" r1) [] [] r2) (callEnv (ksFn "__init__" qual (iA p1 p2) (iB msg kk r1 r2 r3 r4 r5 r6 r7 r8 r9 q1 q2 q3 q4) iS .none .none doc pm an (.ref cda) ct cc) hh.objs.size fI) r3 r8 = pure r8 := by
    unfold methodCallPos
    simp [hline]
  unfold methodCall
  refine wpAny_bind (wpAny_holding ?_)
  refine kxs_getMethod kxs_ValueError e (looks_opaque X₂ T.any) hmr rfl X₂ hsu hI hxC (by decide) ?_
  refine wpAny_bind (wpAny_of_eq hpos ?_)
  have hC₂ := X₂ _ _ hC
  have huN : ∀ (b : Addr) (o : Obj), h₂.get? b = some o → (h₂.push (kxs_mw "ValueError.__init__" x)).get? b = some o := fun b o e => Heap.get?_push_of_some _ e
  refine kxs_callWith (i := "ValueError.__init__") (x := x) rfl ?_
  refine evalArgs_plain (rest := []) (spliced_cons ?_)
  refine wpAny_JoinedStr (pos := r7) ?_
  have lt : (Str.ofString (toString i)).length ≤ 1921 := by
    rw [ofString_length]
    exact int_text_length_le (k := 1920) (by decide) hi
  have z0 : (Str.empty ++ msg).length ≤ sizeLine := by
    rw [Str.length_append, sizeLine_eq]
    have : (Str.empty).length = 0 := rfl
    omega
  have z1 : (Str.empty ++ msg ++ Str.ofString (toString i)).length ≤ sizeLine := by
    rw [Str.length_append, Str.length_append, sizeLine_eq]
    have : (Str.empty).length = 0 := rfl
    omega
  refine Calls.Constant_str ⟨msg, _, rfl, z0, ?_⟩
  refine wpAny_FormattedValue_plain (wpAny_Name (wpAny_loadName_local (m := fun y => List.lookup y [(Str.ofString "self", Value.ref x), (Str.ofString "index", Value.int i ti)].reverse) (by rfl) (by rfl) (Heap.Ns.keeps (Heap.Ns.keeps hns k₂) huN) (by rfl) ?_) (by decide))
  · refine wpAny_formatField_int hi ⟨_, _, rfl, z1, z1, spliced_nil ⟨Heap.get?_push_at rfl rfl, ?_⟩⟩
    refine call_mw (t0 := t0) (huN _ _ hC₂) (huN _ _ hx₂) (Heap.get?_push_at rfl rfl) (one_size _) (fun h₃ t1 k₃ hx₃ => ?_)
    have nuL : ∀ {L : Addr}, L ≠ x → ∀ {m : Str → Option Value}, h₁.Ns L m → h₃.Ns L m := fun hL m n => ns_but (Heap.Ns.keeps (Heap.Ns.keeps n k₂) huN) hL k₃
    have X₃ : K.In h₃ := kept_but (X₂.keeps huN) hnx k₃
    have hn₃ := nuL hxL hns
    refine wpAt_of_wpAny (wpAny_execs_cons (plainObj_wpAny_Assign_Attribute ?_))
    refine wpAny_Name (wpAny_loadName_local (v := .int i ti) (by rfl) (by rfl) hn₃ (by rfl) ?_) (by decide)
    refine wpAny_Name (wpAny_loadName_local (v := .ref x) (by rfl) (by rfl) hn₃ (by rfl) ?_) (by decide)
    refine set_plain X₃ (ox := excO C t1) (od := none) ⟨hx₃, rfl, rfl, trivial⟩ T.sa ?_
    refine exc_osa X₃ hx₃ hcl (show refsVE (.ref C :: bm) = true from hbm) rfl T.noN (fun h₄ tk₄ dx k₄ dn dne hx₄ hn₄ => ?_)
    refine wpAny_execs_nil ?_
    refine hq h₄ tk₄ dx t1 ⟨fun b o hb e => k₄ b o hb (k₃ b o hb (huN _ _ (k₂ _ _ (k b o e)))), hx₄, ?_, dne, hn₄⟩
    exact Nat.le_of_lt (Nat.lt_of_lt_of_le hn₃.lt dn)
/-- a made one -/
structure OwnMade (h h' : Heap) (e C d : Addr) (v : Value) : Prop where
  keep : ∀ b o, h.get? b = some o → h'.get? b = some o
  new : h.objs.size ≤ e
  obj : ∃ oe vs, h'.get? e = some oe ∧ oe.cls = .ref C ∧ oe.dict = some d ∧ oe.data = .fields vs ∧ vs[1]? = some .none
  dbig : h.objs.size ≤ d
  dne : d ≠ e
  ns : h'.Ns1 d (fun y => if y = "index" then some v else none)
theorem ix_made (T : IxTxt prog K mg nm C fI) {i : Int} {ti : Tok} (X : K.In s.heap) (G : s.heap.Ns mainGlobals mg) (B : ∃ mb, s.heap.Ns builtinsNs mb ∧ ∀ y : Str, y ≠ "__name__" → mb y = bootBuiltins y) (hlim : s.heap.NoLimit) (hroom : A.depth + 1 < recursionLimit) (hi : i.natAbs.log2 < 1920)
    (hq : ∀ h' tk e d, OwnMade s.heap h' e C d (.int i ti) → R (.ok (.ret (.ref e))) { s with heap := h', toks := tk }) :
    codeAny (model prog w) A (.call (.ref C) ⟨[.int i ti], []⟩) R s := by
  obtain ⟨nm, q, N, bs, bm, sn, sub, ab, col, dd, k0, k1, k2, k3, k5, hC, hbm⟩ := T.cls
  obtain ⟨hp, g, dr, tk, os⟩ := s
  have k : ∀ b o, hp.get? b = some o → ((hp.push (kdv_tup [.int i ti])).push (excO C hp.objs.size)).get? b = some o := fun b o e => Heap.get?_push_of_some _ (Heap.get?_push_of_some _ e)
  have hget : ((hp.push (kdv_tup [.int i ti])).push (excO C hp.objs.size)).get? (hp.objs.size + 1) = some (excO C hp.objs.size) := by heap_get
  have hnx : K.lookup (hp.objs.size + 1) = none := by
    cases e : K.lookup (hp.objs.size + 1) with
    | none => rfl
    | some o =>
      have z : hp.get? (hp.objs.size + 1) = some o := X _ _ e
      exact absurd (Nat.lt_of_succ_lt (Heap.lt_size z)) (Nat.lt_irrefl _)
  obtain ⟨mb, Bn, Bb⟩ := B
  refine call_own F.excBase_ValueError (fun X => refsVE_contains X bm hbm) (X _ _ hC) (looks_findIn X T.iC) (fun self => bind_fn X self T.tC) (one_size _) ?_
  refine ix_init (s := ⟨(hp.push (kdv_tup [.int i ti])).push (excO C hp.objs.size), g, dr, tk, os⟩) T (X.keeps k) (Heap.Ns.keeps G k) ⟨mb, Heap.Ns.keeps Bn k, Bb⟩ (hlim.keeps k) hget hnx ?_ hi fun h' tk' dx t1 ⟨k', hx, dn, dne, hns⟩ => ?_
  · show A.depth + 1 < recursionLimit
    exact hroom
  · have old : ∀ b o, hp.get? b = some o → h'.get? b = some o := fun b o e => k' b o (Nat.ne_of_lt (Nat.lt_succ_of_lt (Heap.lt_size e))) (k b o e)
    have z : hp.objs.size + 1 + 1 ≤ dx := by
      first
        | (simpa only [Heap.size_push] using dn)
        | exact dn
        | (have q := dn; rw [Heap.size_push, Heap.size_push] at q; exact q)
    exact ⟨rfl, hq h' tk' (hp.objs.size + 1) dx ⟨old, Nat.le_succ _, ⟨_, _, hx, rfl, rfl, rfl, rfl⟩, Nat.le_trans (Nat.le_trans (Nat.le_succ _) (Nat.le_succ _)) z, dne, hns⟩⟩
end
end IxX
end PySem
namespace L2
open PySem PySem.Spec PyProof.Rows
theorem relO_ix {v : V} {v' : Value} (r : RelV v v') (f : Str) : RelO (List.lookup f [(("index" : Str), v)]) (if f = "index" then some v' else none) := by
  by_cases hw : f = "index"
  · subst hw
    rw [if_pos rfl]
    have q : List.lookup ("index" : Str) [(("index" : Str), v)] = some v := by simp [List.lookup]
    rw [q]
    exact r
  · rw [if_neg hw]
    have qw : (f == ("index" : Str)) = false := by simpa using hw
    have q2 : List.lookup f [(("index" : Str), v)] = none := by simp [List.lookup, qw]
    rw [q2]
    trivial
section
variable {X : Cx} {nm : Str} {C fI : Addr}
/-- InvalidX(e) -/
def tMkIx (C : Addr) (ta : TA) : St → Hp → XK → Prop := fun σ H Q => ta σ H fun vs H1 => ∃ i : Int, vs = [.int i] ∧ i.natAbs.log2 < 1920 ∧ ∀ d, H1 d = none → Q (.ref C) (some d) (upd H1 d (.xd [(("index" : Str), .int i)]))
theorem pmk_ix {a : Expr} {ta : TA} {p pos : Pos} {k : Nat} (T : PySem.IxX.IxTxt X.prog X.K X.mg nm C fI) (hr : Room k X.A) (ha : PA X [a] ta) (hg : Gl X nm) (hdb : (nm == ("__debug__" : Str)) = false := by decide)
    (he : starEach (a :: []) X.env = (false, eval a X.env) :: starEach [] X.env := by rfl) (hpl : (backTo pos (starEach [] X.env)).any (·.1) = false := by rfl) :
    PMk X (.Call (.Name nm p) [a] [] pos) (tMkIx C ta) := by
  intro pins s σ H Q I h
  refine wpAny_Call_Name_kw (ld_glob I hg T.gC ?_ hdb)
  refine PySem.W.callWith_K (h₀ := X.base) I.ok.mod.kin T.kC (thn (ha.run pos pins s σ H _ I h) fun us s1 hh => ?_) he hpl
  obtain ⟨vs, H1, I1, r1, i, ev, hi, q1⟩ := hh
  subst ev
  refine ⟨I1.kIn, ?_⟩
  cases r1 with
  | cons rv rn =>
    rename_i v' us'
    cases rn
    obtain ⟨ti, rfl⟩ := rv
    show wpAny _ _ (call (.ref C) [.int i ti]) _ _ _
    have hlim := I1.nolimit
    have hglob := I1.ok.mod.glob.keeps I1.bk
    have hbl : ∃ mb, s1.heap.Ns builtinsNs mb ∧ ∀ y : Str, y ≠ "__name__" → mb y = bootBuiltins y := by
      obtain ⟨mb, b1, b2⟩ := I1.ok.mod.blt
      exact ⟨mb, b1.keeps I1.bk, b2⟩
    have hkin := I1.kIn
    obtain ⟨hp, g, dr, tk, os⟩ := s1
    refine wpAny_call (PySem.IxX.ix_made T hkin hglob hbl hlim (by have := hr.dp; omega) hi fun h' tk' e d M => ?_)
    show MkP X pins σ Q (.ref e) ⟨h', g, dr, tk', os⟩
    obtain ⟨oe, fv, hoe, hc, hd, hdat, h1⟩ := M.obj
    have hns := M.ns
    obtain ⟨G', g1, g2⟩ := restrict h' fun b => decide (b ≠ e)
    have gk : ∀ b, b ≠ e → G'.get? b = h'.get? b := fun b hb => g1 b (decide_eq_true hb)
    have ge : G'.get? e = none := g2 e (by simp)
    have old : ∀ b o, hp.get? b = some o → G'.get? b = some o := fun b o q => (gk b (Nat.ne_of_lt (Nat.lt_of_lt_of_le (Heap.lt_size q) M.new))).trans (M.keep b o q)
    have ob : ObjOk X.prog X.w (upd H1 d (.xd [(("index" : Str), .int i)])) G' d (.xd [(("index" : Str), .int i)]) :=
      ⟨_, hns.at (fun o q => (gk d M.dne).trans q), fun f => relO_ix (v := .int i) (v' := .int i ti) ⟨ti, rfl⟩ f⟩
    have J : Inv X pins σ (upd H1 d (.xd [(("index" : Str), .int i)])) ⟨G', g, dr, tk', os⟩ := I1.laid (t' := tk') old M.dbig ob
    refine ⟨e, oe, fv, ⟨G', g, dr, tk', os⟩, _, .ref C, some d, rfl, J, fun b o q => ?_, ge, hoe, ⟨hc, hd⟩, hdat, h1, ?_, rfl, I1.bare, raises_own T.exC T.tyC, q1 d (I1.hok.fresh M.dbig)⟩
    · by_cases hb : b = e
      · have q' : G'.get? b = some o := q
        rw [hb, ge] at q'; cases q'
      · exact (gk b hb).symm.trans q
    · rw [upd_ne (Ne.symm M.dne)]
      exact I1.hok.fresh M.new
/-- raise InvalidX(e) -/
def tRaiseIx (C : Addr) (W : WX) (ta : TA) : TS := fun _ σ H => tMkIx C ta σ H fun cls d H' => W cls d σ H'
theorem ps_raiseIx {a : Expr} {ta : TA} {W : WX} {p pos pos2 : Pos} {k : Nat} (hc : X.calm = true) (T : PySem.IxX.IxTxt X.prog X.K X.mg nm C fI) (hr : Room k X.A) (tk : Takes X W) (ha : PA X [a] ta) (hg : Gl X nm) (hdb : (nm == ("__debug__" : Str)) = false := by decide)
    (he : starEach (a :: []) X.env = (false, eval a X.env) :: starEach [] X.env := by rfl) (hpl : (backTo pos (starEach [] X.env)).any (·.1) = false := by rfl) :
    PS X (.Raise (some (.Call (.Name nm p) [a] [] pos)) none pos2) (tRaiseIx C W ta) := ps_raise hc tk (pmk_ix T hr ha hg hdb he hpl)
/-- e.index, e the exception that the suite holds (at a; its class cls, its dict d) -/
def tByIx (C : Addr) (a : Addr) (cls : Value) (d : Option Addr) (te : TE) : TE := fun σ H Q => te σ H fun x H1 => x = .ref a ∧ cls = .ref C ∧ ∃ (dd : Addr) (v : V), d = some dd ∧ H1 dd = some (.xd [(("index" : Str), v)]) ∧ Q v H1
theorem pe_byIx {a : Addr} {oe : Obj} {cls : Value} {d : Option Addr} {pn : List (Addr × Obj)} {e : Expr} {te : TE} {pos : Pos} (T : PySem.IxX.IxTxt X.prog X.K X.mg nm C fI) (hz : Zc cls d oe) (hf : ∃ vs, oe.data = .fields vs) (he : PE (X.suite a ((a, oe) :: pn)) e te)
    (hb : attributeBase e "index" X.env (eval e X.env) = eval e X.env := by rfl) :
    PE (X.suite a ((a, oe) :: pn)) (.Attribute e "index" pos) (tByIx C a cls d te) := by
  refine ⟨fun pins s σ H Q I h => ?_⟩
  refine attr_of hb (thn (he.run pins s σ H _ I h) fun u s1 hh => ?_)
  obtain ⟨x, H1, I1, rx, ex, ec, dd, v, ed, ea, q⟩ := hh
  subst ex
  obtain rfl : u = Value.ref a := rx
  subst ec
  subst ed
  obtain ⟨ha, _⟩ := I1.pin (a, oe) (List.mem_append_left _ List.mem_cons_self)
  obtain ⟨vs, hd⟩ := hf
  have hx : ObjOk X.prog X.w H1 s1.heap dd (.xd [(("index" : Str), v)]) := I1.hok dd _ ea
  obtain ⟨mA, hns, hr⟩ := hx
  obtain ⟨od, ho, hl⟩ := lookIn_ns hns
  have l : List.lookup ("index" : Str) [(("index" : Str), v)] = some v := by simp [List.lookup]
  obtain ⟨u, hu, ru⟩ := RelO.some_of (v := v) (o := mA "index") (by rw [← l]; exact hr "index")
  have J : PySem.W.InstAt s1.heap a oe C (some od) := ⟨ha, hz.1, by unfold PySem.W.notCls; rw [hd] <;> rfl, by rw [hz.2]; exact ho⟩
  exact HandSPX.exc_get I1.kIn J T.ga T.gg T.exC (PySem.W.findObj_own T.hdC T.noN rfl (by rw [hl, hu])) (handed_of ru) ⟨v, H1, I1.tok _, ru, q⟩
end
end L2

set_option maxHeartbeats 4000000
/-! isinstance of a caught error that has a dict; count of a list of flat things; a lambda's call in a try whose suite reads the state -/
namespace Ru
open PySem PySem.Spec PyProof.Rows L2 LamX
/-! ### isinstance(e, c) -/
/-- the error has no dict, or one that is tracked -/
def DictAt (d : Option Addr) (H : Hp) : Prop := d = none ∨ ∃ (dd : Addr) (fs : List (Str × V)), d = some dd ∧ H dd = some (.xd fs)
def rIsX (K : PySem.W.Frag) (a : Addr) (cls : Value) (d : Option Addr) : List V → Hp → VK → Prop := fun xs H Q =>
  ∃ (D : Addr) (c : V) (cv : Value) (b : Bool), cls = .ref D ∧ ExcC K D ∧ DictAt d H ∧ xs = [.ref a, c] ∧ (∀ u, RelV c u → u = cv) ∧ PySem.W.kitOne K (.ref D) cv = some b ∧ Q (.bl b) H
theorem call_isX {X : Cx} {a : Addr} {cls : Value} {d : Option Addr} {oe : Obj} {pn : List (Addr × Obj)} (hz : Zc cls d oe) (hf : ∃ vs, oe.data = .fields vs) : CallR (X.suite a ((a, oe) :: pn)) (.builtin "isinstance") (rIsX X.K a cls d) := by
  intro pins s σ H xs us Q I r h
  obtain ⟨D, c, cv, b, rfl, C, hd, rfl, hcv, e, q⟩ := h
  obtain ⟨v1, us', rfl, r1, rr⟩ : ∃ v1 us', us = v1 :: us' ∧ RelV (.ref a) v1 ∧ Vals [c] us' := by cases r with | cons p q => exact ⟨_, _, rfl, p, q⟩
  obtain ⟨v2, rfl, r2⟩ := rr.one
  obtain rfl : v1 = Value.ref a := r1
  obtain rfl := hcv _ r2
  have hp := (I.pin (a, oe) (List.mem_append_left _ List.mem_cons_self)).1
  obtain ⟨vs, hv⟩ := hf
  obtain ⟨cd, hcd, _⟩ := PySem.W.any_some C.hd
  have hcl : (PySem.W.clsIn X.K D).isSome = true := by rw [hcd]; rfl
  have fin : ∀ od : Option Obj, PySem.W.InstAt s.heap a oe D od → wpAny (model X.prog X.w) (X.suite a ((a, oe) :: pn)).A (call (.builtin "isinstance") [.ref a, v2]) (EP (X.suite a ((a, oe) :: pn)) pins σ Q) (X.suite a ((a, oe) :: pn)).xe s := fun od J =>
    PySem.W.kia_one (PySem.W.kitx_exc (od := od) hcl C.hg C.hk C.hs C.ha C.hn C.ht C.hm) I.kIn J e (fun z => nomatch z) fun tk => ⟨.bl b, H, I.kept (t' := tk) fun _ _ z => z, rfl, q⟩
  rcases hd with rfl | ⟨dd, fs, rfl, hx⟩
  · exact fin none ⟨hp, hz.1, by unfold PySem.W.notCls; rw [hv] <;> rfl, by rw [hz.2]; trivial⟩
  · have ob : ObjOk X.prog X.w H s.heap dd (.xd fs) := I.hok dd _ hx
    obtain ⟨mA, hns, hr⟩ := ob
    obtain ⟨od, ho, hl⟩ := lookIn_ns hns
    exact fin (some od) ⟨hp, hz.1, by unfold PySem.W.notCls; rw [hv] <;> rfl, by rw [hz.2]; exact ho⟩
/-! ### xs.count(y) -/
def rCntF (K : PySem.W.Frag) : V → List V → Hp → VK → Prop := fun x xs H Q => ∃ (p : Addr) (ys : List V) (y : V), x = .ref p ∧ xs = [y] ∧ SqL K H p ys ∧ flatV y = true ∧ ys.all flatV = true ∧ Q (.int (ys.countP (fun z => eqV z y) : Nat)) H
theorem cnt_flat {y : V} : ∀ {ys : List V} {us : List Value}, Vals ys us → ys.all flatV = true → us.countP (eqU y) = ys.countP (fun z => eqV z y)
  | _, _, .nil, _ => rfl
  | _, _, .cons r rs, h => by
    simp only [List.all_cons, Bool.and_eq_true] at h
    rw [List.countP_cons, List.countP_cons, cnt_flat rs h.2, eqU_of r h.1]
theorem mt_countF {X : Cx} : MtR X "list.count" (rCntF X.K) := by
  intro pins s σ H x xs v us Q I rx rxs h
  obtain ⟨p, ys, y, rfl, rfl, hs, fy, fys, q⟩ := h
  obtain rfl : v = Value.ref p := rx
  obtain ⟨uy, rfl, ry⟩ := rxs.one
  obtain ⟨its, rv, ⟨⟨cls, dd, data, sl⟩, n, ho, hc, hdn, hd⟩, hlen⟩ := I.list hs
  obtain rfl : cls = .type "list" := hc
  obtain rfl : data = .seq its.toArray n := hd
  refine call_meets PySem.F.slot_list_count ⟨_, ho, rfl⟩ PySem.F.entry_list_count (PySem.F.args_list_count_2 _ _)
    (SeqAt.list_countAt p its.toArray n dd sl uy (eqU y)) ⟨ho, fun u hu => mem_eqAt ry fy rv fys u (by simpa using hu), ?_⟩
  refine ⟨.int (ys.countP (fun z => eqV z y) : Nat), H, I.tok _, ⟨s.toks, ?_⟩, q⟩
  rw [show its.toArray.toList = its by simp, cnt_flat rv fys]
/-! ### a lambda without parameters: made, handed to a def, called there in a try -/
section
variable {X : Cx} {pins : List (Addr × Obj)} {σ : L2.St} {H : Hp} {s : Shared}
/-- the call: what the try around takes may rest on the state at the call -/
def tAct (f c' : Addr) (q : Str) (tl : XK → Hp → VK → Prop) (W : WX) : TE := fun σz Hz Q =>
  σz[0]? = some (some (.ref f)) ∧ Hz c' = some (CodeO c' q) ∧ ∃ Ez : XK, (∀ cls d Hy, Ez cls d Hy → W cls d σz Hy) ∧ tl Ez Hz Q
theorem pe_call_lam {sg : Scope} {g f c' : Addr} {cdg pm ctv : Value} {Ng : List Str} {qg a : Str} {params : Arguments} {body : Expr} {scope : Scope} {k : Nat} {pn : List (Addr × Obj)} {xe : Value → Shared → Prop} {W : WX} {t : XK → TE} {pa pc : Pos}
    (I : Inv X pins σ H s) (L : LamS X.env.scope scope)
    (lam : s.heap.get? f = some (PySem.W.kla_obj "<lambda>" (X.env.qual ++ "<lambda>") params body scope (cloFrom X.env.cells scope.names []) pm c' ctv)) (nf : H f = none) (nfr : f ∉ frs X.stack)
    (bnd : bindArgs (PySem.W.kla_fn "<lambda>" (X.env.qual ++ "<lambda>") params body scope (cloFrom X.env.cells scope.names []) pm (.ref c') ctv) ⟨[], []⟩ = pure [])
    (tk : Takes ((cxOf C8.CX0 X.prog X.w X.K X.mg X.base Ng qg sg g cdg X.A X.stack s H C8.E0).tr pn xe) W) (hr : Room (k + 1) (X.A.deeper (envOfC qg sg s.heap.objs.size g cdg)))
    (hb : ∀ (A : Around) (outer : List Env) (sB : Shared) (HB : Hp) (Ez : XK), Room k (A.deeper (lamEnv X scope sB.heap.objs.size f c')) → PE (lamCx X A outer sB HB Ez scope f c') body (t Ez))
    (hN : Ng[0]? = some a) (hv : Vis sg a) (hd : (a == ("__debug__" : Str)) = false) (hcd : (a == ("__classdict__" : Str)) = false) :
    PE ((cxOf C8.CX0 X.prog X.w X.K X.mg X.base Ng qg sg g cdg X.A X.stack s H C8.E0).tr pn xe) (.Call (.Name a pa) [] [] pc) (tAct f c' (X.env.qual ++ "<lambda>") (fun Ez Hz Q => t Ez σ Hz Q) W) := by
  refine ⟨fun pz sz σz Hz Q Iz h => ?_⟩
  obtain ⟨hs, hc, Ez, hW, ht⟩ := h
  refine wpAny_Call_Name_kw (thn ((pe_var (pos := pa) (i := 0) hN hv hd hcd).run pz sz σz Hz (fun v Hy => v = .ref f ∧ Hy = Hz) Iz ⟨.ref f, hs, rfl, rfl⟩) fun u sy ⟨v, Hy, Iy, ry, qy⟩ => ?_)
  obtain ⟨rfl, rfl⟩ := qy
  obtain rfl : u = Value.ref f := ry
  have lamY := Iy.base.keep f _ lam nf nfr (fun z => nomatch (show f ∈ ([] : List Addr) from z))
  refine PySem.W.callWith_F0 ⟨_, _, _, _, lamY⟩ ?_
  have un : Un (frs X.stack) [] H Hy s.heap sy.heap := Iy.base
  obtain ⟨⟨oc, vs, tc, hoc, hdc, hvc⟩, _, _⟩ := Iy.hok c' _ hc
  have run : codeAny (model X.prog X.w) (X.A.deeper (envOfC qg sg s.heap.objs.size g cdg)) (.call (.ref f) ⟨[], []⟩)
      (CR (L2.CX X.prog X.w) (envOfC qg sg s.heap.objs.size g cdg :: X.stack) X.prog X.w Hy sy Q Ez) sy := by
    refine PySem.W.kla_callFunE hr.depth lamY rfl L.co L.gen rfl ⟨c', oc, vs, tc, rfl, hoc, hdc, hvc⟩ ?_
    rw [bnd]
    have own1 : ∀ y ∈ scope.names, y.2 ≠ NameKind.cell := fun y hy => (L.own y hy).2
    refine wpAny_pure (wpAny_newFunctionEnv own1 (fun y hy => absurd hy (by simp)) (fun hB nsB sb => ⟨Iy.nolimit.fresh _ sb, ?_⟩) L.kind)
    show codeAny _ _ (.expr body (lamEnv X scope sy.heap.objs.size f c')) _ _
    have kp : ∀ b o, sy.heap.get? b = some o → hB.get? b = some o := fun b o e => sb.extBut b o (Nat.ne_of_lt (Heap.lt_size e)) (Heap.get?_push_of_some _ e)
    have J := lam_start2 (f := f) (c' := c') (E := Ez) (tk := sy.toks + ([] : List (Str × Value)).length) I L Iy.env0 hr.hd un nsB kp
    refine PySem.W.kla_codeExpr (wpAny_mono ((hb _ _ sy Hy Ez (hr.deeper _)).run [] _ _ Hy Q J ht) (fun v sx hq => ?_) fun e sx hq => hq)
    obtain ⟨vv, Hx, Jx, rv, q⟩ := hq
    exact ⟨vv, Hx, Jx.os, Jx.bare, Jx.base, Jx.hok, rv, q⟩
  refine wpAny_call (codeAny_mono run fun r sx hq => ?_)
  cases r with
  | error e => exact tk e sx (XE.of_call Iy (fun cls d Hx hE => hW cls d Hx hE) hq)
  | ok fl =>
    cases fl with
    | ret u => exact Iy.after hq
    | next => exact False.elim hq
    | brk => exact False.elim hq
    | cont => exact False.elim hq
end
/-- the def that calls what it got (its first parameter a); TT: what it makes of the lambda's reading -/
def Gives (X : Cx) (Ng : List Str) (x : Str) (sg : Scope) (g : Addr) (cdg : Value) (bg : List Stmt) (a q : Str) (TT : (XK → Hp → VK → Prop) → Hp → VK → Prop) : Prop :=
  ∀ (f c' : Addr) (s : Shared) (H : Hp) (Q : VK) (tl : XK → Hp → VK → Prop), Room 9 (X.A.deeper (envOfC x sg s.heap.objs.size g cdg)) →
    (∀ (W : WX) (pn : List (Addr × Obj)) (xe : Value → Shared → Prop) (pa pc : Pos), Takes ((cxOf C8.CX0 X.prog X.w X.K X.mg X.base Ng x sg g cdg X.A X.stack s H C8.E0).tr pn xe) W →
      PE ((cxOf C8.CX0 X.prog X.w X.K X.mg X.base Ng x sg g cdg X.A X.stack s H C8.E0).tr pn xe) (.Call (.Name a pa) [] [] pc) (tAct f c' q tl W)) →
    H c' = some (CodeO c' q) → TT tl H Q →
    ∃ t, PSs (cxOf C8.CX0 X.prog X.w X.K X.mg X.base Ng x sg g cdg X.A X.stack s H C8.E0) bg t ∧ t { nx := fun _ H' => Q .non H', rt := Q } (L2.start Ng [.ref f]) H
section
variable {X : Cx}
/-- x(lambda: body) -/
theorem pe_give {T : List (Addr × Str)} {TT : (XK → Hp → VK → Prop) → Hp → VK → Prop} {x a : Str} {g c P : Addr} {k : Nat} {pg : Arguments} {bg : List Stmt} {sg : Scope} {dV kV doc pm cdv ct oc : Value} {an od : Option Addr} {osl : Array (Option Value)} {Ng : List Str}
    {params : Arguments} {body : Expr} {scope : Scope} {t : XK → TE} {p lpos pos : Pos} (hg : Gl X x) (hm : X.mg x = some (.ref g)) (hk : PySem.W.keepIn X.K (.ref g) = true)
    (lk : X.K.lookup g = some ⟨oc, od, .func (PySem.W.fnOf x x pg bg sg dV kV doc pm an cdv ct), osl⟩) (hcg : PySem.W.codeIn X.K cdv x = true) (hbi : L2.Binds X.K (PySem.W.fnOf x x pg bg sg dV kV doc pm an cdv ct) [a] [])
    (Sg : FnScope Ng [a] sg) (hNg : Ng[0]? = some a) (hva : Vis sg a) (hG : Gives X Ng x sg g cdv bg a (X.env.qual ++ "<lambda>") TT)
    (TB : TabB X.base X.mg c P) (hcode : X.env.code = .ref c) (hmT : (P, X.env.qual ++ "<lambda>") ∈ T) (hu : ∀ p ∈ T, p.1 = P → p.2 = X.env.qual ++ "<lambda>") (hr : Room (k + 2) X.A) (h9 : 9 ≤ k + 1) (L : LamS X.env.scope scope) (hdef : defaultsOf params X.env = ([], []))
    (bnd : ∀ (q : Str) (cl : List (Str × Addr)) (pm cv ctv : Value), bindArgs (PySem.W.kla_fn "<lambda>" q params body scope cl pm cv ctv) ⟨[], []⟩ = pure [])
    (hb : ∀ (A : Around) (outer : List Env) (s : Shared) (H : Hp) (E : XK) (f c' : Addr), Room k (A.deeper (lamEnv X scope s.heap.objs.size f c')) → PE (lamCx X A outer s H E scope f c') body (t E))
    (hdb : (x == ("__debug__" : Str)) = false := by decide) (hd : (a == ("__debug__" : Str)) = false := by decide) (hcd : (a == ("__classdict__" : Str)) = false := by decide) :
    PE X (.Call (.Name x p) [.Lambda params body scope lpos] [] pos) (tLam T TT t) := by
  refine ⟨fun pins s σ H Q I h => ?_⟩
  obtain ⟨hT, go⟩ := h
  refine wpAny_Call_Name_kw (ld_glob I hg hm ?_ hdb)
  refine PySem.W.callWith_K (h₀ := X.base) I.ok.mod.kin hk ?_ (by rfl) (by rfl)
  show wpAny _ _ (spliced ((false, eval (.Lambda params body scope lpos) X.env) :: backTo pos (starEach [] X.env))) _ _ s
  refine Calls.spliced_cons (lam_make2 I TB hcode hmT hu hT hdef (L.has I.ok) fun f c' pm' ctv Hy sy Iy eN Ty lamY nf nfr hco => ?_)
  refine Calls.spliced_nil ⟨Iy.kIn, ?_⟩
  have run : codeAny (model X.prog X.w) X.A (.call (.ref g) ⟨[.ref f], []⟩) (CR C8.CX0 X.stack X.prog X.w Hy sy Q C8.E0) sy := by
    refine run_ofS (N := Ng) (ps := [a]) (us := [.ref f]) (vs := [.ref f]) lk hcg Sg hr Iy.env0 (hbi sy [.ref f] Iy.kIn rfl) (.cons rfl .nil) rfl fun hr' => ?_
    exact hG f c' sy Hy Q (fun E Hz Q' => t E σ Hz Q') (hr'.mono h9) (fun W pn xe pa pc tk => pe_call_lam Iy L lamY nf nfr (bnd _ _ _ _ _) tk hr' (fun A outer s H E hr2 => hb A outer s H E f c' hr2) hNg hva hd hcd) hco (go Hy eN Ty)
  refine wpAny_call (codeAny_mono run fun r sx hq => ?_)
  cases r with
  | error e => exact (show False from hq).elim
  | ok fl =>
    cases fl with
    | ret u => exact Iy.after hq
    | next => exact False.elim hq
    | brk => exact False.elim hq
    | cont => exact False.elim hq
end
end Ru

set_option maxHeartbeats 4000000
/-! own operators: a + b of two instances of a class with its own __add__; len(a) with its own __len__ -/
namespace Ru
open PySem PySem.Spec PyProof.Rows L2 StX
/-- the class stands first in its own order -/
def mroHd (K : PySem.W.Frag) (C : Addr) : Bool := match PySem.W.clsIn K C with
  | some cd => (match cd.mro with
    | .ref D :: _ => decide (D = C)
    | _ => false)
  | none => false
section
variable {prog : Program} {w : World} {A : Around} {E : Value → Shared → Prop} {s : Shared} {K : PySem.W.Frag} {C f : Addr} {nm : String}
theorem mro_hd {h : Heap} (X : K.In h) (hm : mroHd K C = true) : ∃ rest, PySem.W.Looks (model prog w) h (mroOf (.ref C)) (.ref C :: rest) := by
  unfold mroHd at hm
  cases e : PySem.W.clsIn K C with
  | none => rw [e] at hm; cases hm
  | some cd =>
    rw [e] at hm
    have L : PySem.W.Looks (model prog w) h (mroOf (.ref C)) cd.mro := (PySem.W.looks_clsIn X e).andThen .now
    cases em : cd.mro with
    | nil =>
      have hm2 : (match cd.mro with
        | .ref D :: _ => decide (D = C)
        | _ => false) = true := hm
      rw [em] at hm2; cases hm2
    | cons v rest =>
      have hm2 : (match cd.mro with
        | .ref D :: _ => decide (D = C)
        | _ => false) = true := hm
      rw [em] at hm2 L
      cases v with
      | ref D =>
        have e2 : D = C := of_decide_eq_true hm2
        rw [e2] at L
        exact ⟨rest, L⟩
      | _ => cases hm2
theorem fills_own {h : Heap} {g : Array GenState} {d : Drawn} {t : Nat} {os : OsState} {Q : Bool → Shared → Prop} (X : K.In h) (hm : mroHd K C = true) (ha : PySem.W.findIn K (.ref C) (dunder nm) = some (some (.ref f))) (hq : Q true ⟨h, g, d, t, os⟩) :
    wpAny (model prog w) A (fillsNumberSlot (.ref C) nm) Q E ⟨h, g, d, t, os⟩ := by
  obtain ⟨rest, L⟩ := mro_hd (prog := prog) (w := w) X hm
  unfold fillsNumberSlot
  refine wpAny_bind (L.at ?_)
  simp only [List.anyM]
  refine wpAny_bind (wpAny_bind ?_)
  refine wpAny_bind ((PySem.W.looks_findIn X ha).at ?_)
  have ho : ownNameWrapper (.ref f) (dunder nm) = false := rfl
  dsimp only
  rw [ho]
  exact wpAny_pure (wpAny_pure (wpAny_pure hq))
/-- a.m(b) by the class, its answer never NotImplemented -/
theorem try_own {a b : Addr} {m : Str} {Q : Option Value → Shared → Prop} (X : K.In s.heap) {oa : Obj} (ho : s.heap.get? a = some oa) (hc : oa.cls = .ref C) (ha : PySem.W.findIn K (.ref C) m = some (some (.ref f))) (hf : PySem.W.isFn K (.ref f) = true)
    (h : wpAny (model prog w) A (call (.ref f) [.ref a, .ref b]) (fun v s' => v ≠ .notImplemented ∧ Q (some v) s') E s) : wpAny (model prog w) A (tryMethod (.ref a) m (.ref b)) Q E s := by
  obtain ⟨hh, g, d, t, os⟩ := s
  have sp : PySem.W.Looks (model prog w) hh (specialOf (.ref a) m) (some (.ref f)) := (NwA.type_at ho hc).andThen (PySem.W.looks_findIn X ha)
  unfold tryMethod callSpecial?
  refine wpAny_bind (wpAny_bind (sp.at ?_))
  refine wpAny_holding (wpAny_bind ((PySem.W.bind_fn X _ (beq_iff_eq.mp hf)).at ?_))
  refine wpAny_bind (wpAny_mono h (fun v s' ⟨hn, hq⟩ => ?_) fun _ _ z => z)
  refine wpAny_pure ?_
  cases v <;> first | exact wpAny_pure hq | exact absurd rfl hn
theorem bin1_own {a b : Addr} {Q : Option Value → Shared → Prop} (X : K.In s.heap) (hm : mroHd K C = true) {oa ob : Obj} (ha : s.heap.get? a = some oa) (hac : oa.cls = .ref C) (hb : s.heap.get? b = some ob) (hbc : ob.cls = .ref C)
    (hi : PySem.W.findIn K (.ref C) (dunder nm) = some (some (.ref f))) (hf : PySem.W.isFn K (.ref f) = true)
    (h : wpAny (model prog w) A (call (.ref f) [.ref a, .ref b]) (fun v s' => v ≠ .notImplemented ∧ Q (some v) s') E s) : wpAny (model prog w) A (binaryOp1 nm (.ref a) (.ref b)) Q E s := by
  have ht : ∀ {α : Type} {x : α}, True := fun {_ _} => trivial
  obtain ⟨hh, g, d, t, os⟩ := s
  simp only [binaryOp1]
  refine wpAny_bind ((NwA.type_at ha hac).at (wpAny_bind ((NwA.type_at hb hbc).at (wpAny_bind (fills_own X hm hi ?_)))))
  simp only [beq_self_eq_true, if_true, pure_bind, Bool.and_false, Bool.false_and, Bool.false_eq_true, if_false]
  exact wpAny_bind (try_own X ha hac hi hf (wpAny_mono h (fun v s' ⟨hn, hq⟩ => ⟨hn, wpAny_pure hq⟩) fun _ _ z => z))
end
section
variable {X : Cx} {CX : CXT} {k : Nat} {f C : Addr} {fd : FuncData} {ps : List Str} {sp : Sp} {E : XK}
theorem relV_ni {v : V} {u : Value} (r : RelV v u) : u ≠ .notImplemented := fun z => by
  subst z
  cases v <;> first | (obtain ⟨_, e⟩ := r; cases e) | cases r
theorem ins_obj {P : Program} {w : World} {H : Hp} {h : Heap} {a C dx : Addr} {fs : List (Str × V)} (hok : HOk P w H h) (e : H a = some (.ins C dx fs)) : ∃ oa, h.get? a = some oa ∧ oa.cls = .ref C := by
  obtain ⟨mA, O, r, _, _, _⟩ := ins_get hok e
  exact ⟨_, O.obj, rfl⟩
/-- a + b of instances of C -/
def rOwnB (C : Addr) (sp : Sp) (E : XK) : R2 := fun x y H Q => ∃ a dx fs b dy gs, x = .ref a ∧ y = .ref b ∧ H a = some (.ins C dx fs) ∧ H b = some (.ins C dy gs) ∧ sp [.ref a, .ref b] H Q E
theorem op_ownAdd (hm : mroHd X.K C = true) (mt : Meth X.K C "__add__" f) (F : FnOk X.prog X.w X.K X.mg X.base CX k f fd ps sp) (hb : Binds X.K fd ps []) (hr : Room k X.A) (hx : Passes CX X E) : OpR X (binaryOp .Add) (rOwnB C sp E) := by
  intro pins s σ H x y v u Q I rx ry h
  obtain ⟨a, dx, fs, b, dy, gs, rfl, rfl, ea, eb, q⟩ := h
  obtain rfl : v = Value.ref a := rx
  obtain rfl : u = Value.ref b := ry
  obtain ⟨oa, ha, hac⟩ := ins_obj I.hok ea
  obtain ⟨ob, hb', hbc⟩ := ins_obj I.hok eb
  unfold binaryOp
  refine wpAny_holding (wpAny_bind (bin1_own (nm := "add") (C := C) (f := f) I.kIn hm ha hac hb' hbc mt.at_ mt.fn ?_))
  refine thn (run_fn (us := [.ref a, .ref b]) (vs := [.ref a, .ref b]) F hr hb .nil hx I (.cons rfl (.cons rfl .nil)) q) fun v s' e => ?_
  have ev := e
  obtain ⟨vv, H', I', rv, _⟩ := e
  exact ⟨relV_ni rv, wpAny_pure ev⟩
/-- len(a), a an instance of C with its own __len__ -/
theorem call_lenOwn (mt : Meth X.K C "__len__" f) (F : FnOk X.prog X.w X.K X.mg X.base CX k f fd ps sp) (hb : Binds X.K fd ps []) (hr : Room (k + 1) X.A) (hx : Passes CX X.nox E) :
    CallR X (.builtin "len") (fun xs H Q => ∃ a dx fs, xs = [.ref a] ∧ H a = some (.ins C dx fs) ∧ sp [.ref a] H (fun v H' => ∃ n : Nat, v = .int n ∧ n < 2 ^ 62 ∧ Q (.int n) H') E) := by
  intro pins s σ H xs us Q I r h
  obtain ⟨a, dx, fs, rfl, ea, q⟩ := h
  obtain ⟨u, rfl, ru⟩ := r.one
  obtain rfl : u = Value.ref a := ru
  obtain ⟨oa, ha, hac⟩ := ins_obj I.hok ea
  refine Calls.call_function_entry kind_len plain_len entry_len (args_len1 _) ?_
  have X0 := I.kIn
  have run : codeAny (model X.prog X.w) X.A.in1 (.call (.ref f) ⟨[.ref a], []⟩) (CR CX X.stack X.prog X.w H s (fun v H' => ∃ n : Nat, v = .int n ∧ n < 2 ^ 62 ∧ Q (.int n) H') E) s := by
    refine F.run X.A.in1 X.stack s H ⟨[.ref a], []⟩ [.ref a] [.ref a] _ E hr.in1 I.env0.in1 (hb s [.ref a] X0 ?_) (.cons rfl .nil) q
    have e := F.len _ _ _ _ q
    exact e
  have sp1 : PySem.W.Looks (model X.prog X.w) s.heap (specialOf (.ref a) (PySem.Str.ofString "__len__")) (some (.ref f)) := (NwA.type_at ha hac).andThen (PySem.W.looks_findIn X0 mt.at_)
  unfold Builtin.«len»
  refine wpAny_bind (m := oneArg "len" _) (wpAny_pure ?_)
  obtain ⟨hh, g, d, t, os⟩ := s
  refine wpAny_bind (m := callSpecial? (.ref a) (PySem.Str.ofString "__len__")) ?_
  unfold callSpecial?
  refine wpAny_bind (sp1.at ?_)
  refine wpAny_holding (wpAny_bind ((PySem.W.bind_fn X0 _ (beq_iff_eq.mp mt.fn)).at ?_))
  refine wpAny_bind (wpAny_call (codeAny_mono run fun r s' hq => ?_))
  cases r with
  | error er => exact False.elim (hx pins σ H _ er s' (I.wish _) hq)
  | ok fl =>
    cases fl with
    | ret u =>
      obtain ⟨v, H', I3, rv, n, rfl, hn, q3⟩ := I.after hq
      obtain ⟨tn, rfl⟩ := rv
      refine wpAny_pure ?_
      show wpAny _ _ (holding [Value.int (n : Int) tn] (asIndex (Value.int (n : Int) tn)) >>= _) _ _ _
      refine wpAny_bind (wpAny_holding (wpAny_pure ?_))
      refine wpAny_bind (wpAny_letGo ?_)
      have n0 : ¬ (((n : Nat) : Int) < 0) := by omega
      have n1 : ¬ (((n : Nat) : Int) ≥ 2 ^ 63) := by
        have : (n : Int) < 2 ^ 62 := by exact_mod_cast hn
        omega
      simp only [n0, n1, if_false]
      exact wpAny_bind (wpAny_mkInt (wpAny_pure ⟨_, rfl, ⟨.int (n : Int), H', I3.tok _, ⟨_, rfl⟩, q3⟩⟩))
    | next => exact False.elim hq
    | brk => exact False.elim hq
    | cont => exact False.elim hq
end
section
variable {X : Cx} {CX : CXT} {k i : Nat} {f C : Addr} {fd : FuncData} {ps : List Str} {sp : Sp} {E : XK} {x : Str} {e : Expr} {es : List Expr} {t : TA} {te : TE} {p pos sq : Pos}
theorem toR {P : Program} {w : World} {K : PySem.W.Frag} {mg : Str → Option Value} {base : Heap} (F : FnOk P w K mg base CX k f fd ps sp) (hb : Binds K fd ps []) : FnR P w K mg base CX k f sp := by
  intro A outer s H us vs Q E hr e0 r h
  have hl : us.length = ps.length := by rw [← r.length]; exact F.len _ _ _ _ h
  have KX : K.In s.heap := e0.mod.kin.keeps fun b o q => (e0.bs b o q).1
  have z := hb s us KX (by rw [List.append_nil]; exact hl)
  rw [List.append_nil] at z
  exact F.run A outer s H ⟨us, []⟩ us vs Q E hr e0 z r h
/-- x(e, ..), x a name of the def that holds the class at C -/
def tMakeL (C : Addr) (i : Nat) (sp : Sp) (E : XK) (t : TA) : TE := fun σ H Q => σ[i]? = some (some (.ref C)) ∧ tMakeR C sp E t σ H Q
theorem pe_makeL (M : Mk X.K C f) (F : FnR X.prog X.w X.K X.mg X.base CX k f sp) (hr : Room (k + 1) X.A) (hN : X.N[i]? = some x) (hv : Vis X.env.scope x) (hx : Passes CX X E) (ha : PA X (e :: es) t)
    (hdb : (x == ("__debug__" : Str)) = false := by decide) (hcd : (x == ("__classdict__" : Str)) = false := by decide)
    (he : starEach (e :: es) X.env = (false, eval e X.env) :: starEach es X.env := by rfl) (hpl : (backTo pos (starEach es X.env)).any (·.1) = false := by rfl) : PE X (.Call (.Name x p) (e :: es) [] pos) (tMakeL C i sp E t) := by
  refine ⟨fun pins s σ H Q I h => ?_⟩
  obtain ⟨hs, ht⟩ := h
  refine wpAny_Call_Name_kw (thn ((pe_var (pos := p) hN hv hdb hcd).run pins s σ H (fun v Hy => v = .ref C ∧ Hy = H) I ⟨.ref C, hs, rfl, rfl⟩) fun u sy ⟨v, Hy, Iy, ry, qy⟩ => ?_)
  obtain ⟨rfl, rfl⟩ := qy
  obtain rfl : u = Value.ref C := ry
  exact PySem.W.callWith_K (h₀ := X.base) I.ok.mod.kin M.kp (thn (ha.run pos pins sy σ _ _ Iy ht) fun us sz ⟨vs, Hz, Iz, r, q⟩ => ⟨Iz.kIn, run_makeR M F hr hx Iz r q⟩) he hpl
/-- x(), x the class at C -/
theorem pe_makeR0 (M : Mk X.K C f) (F : FnR X.prog X.w X.K X.mg X.base CX k f sp) (hr : Room (k + 1) X.A) (hg : Gl X x) (hm : X.mg x = some (.ref C)) (hx : Passes CX X E) (hdb : (x == ("__debug__" : Str)) = false := by decide) :
    PE X (.Call (.Name x p) [] [] pos) (tMakeR C sp E tNil) := by
  refine ⟨fun pins s σ H Q I h => ?_⟩
  refine wpAny_Call_Name_kw (ld_glob I hg hm ?_ hdb)
  exact PySem.W.callWith_K0 I.kIn M.kp (run_makeR (us := []) (vs := []) M F hr hx I .nil h)
/-- x(*e), x the class at C -/
def tMakeSt (K : PySem.W.Frag) (C : Addr) (sp : Sp) (E : XK) (te : TE) : TE := fun σ H Q => te σ H fun y H1 => ∃ a xs, y = V.ref a ∧ (SqT K H1 a xs ∨ SqL K H1 a xs) ∧
  ∀ x dx, H1 x = Option.none → H1 dx = Option.none → dx ≠ x → sp (V.ref x :: xs) (upd (upd H1 dx (.own x)) x (.ins C dx [])) (fun v H2 => v = .non ∧ Q (.ref x) H2) E
theorem pe_makeSt (M : Mk X.K C f) (F : FnR X.prog X.w X.K X.mg X.base CX k f sp) (hr : Room (k + 1) X.A) (hg : Gl X x) (hm : X.mg x = some (.ref C)) (hx : Passes CX X E) (he : PE X e te) (hdb : (x == ("__debug__" : Str)) = false := by decide)
    (hst : starEach [.Starred e sq] X.env = [(true, eval e X.env)] := by rfl) : PE X (.Call (.Name x p) [.Starred e sq] [] pos) (tMakeSt X.K C sp E te) := by
  refine ⟨fun pins s σ H Q I h => ?_⟩
  refine wpAny_Call_Name_kw (ld_glob I hg hm ?_ hdb)
  refine PySem.W.callWith_S (h₀ := X.base) I.ok.mod.kin M.kp (thn (he.run pins s σ H _ I h) fun v sy ⟨y, Hy, Iy, ry, a, xs, ey, hxs, q⟩ => ?_) hst
  subst ey
  obtain rfl : v = Value.ref a := ry
  exact star_any Iy hxs fun us sz Iz rv => ⟨Iz.kIn, run_makeR M F hr hx Iz rv q⟩
/-- nothing is raised there -/
theorem passNo {P : Program} {w : World} (hp : X.prog = P) (hw : X.w = w) : Passes (L2.CX P w) X (fun _ _ _ => False) := fun pins σ H s e s' I c => by
  obtain ⟨_, _, _, _, _, _, _, _, _, _, _, _, z⟩ := c
  exact z.elim
/-- lcm(i, j) -/
def rLcm : List V → Hp → VK → Prop := fun vs H Q => ∃ i j : Nat, vs = [.int i, .int j] ∧ i < 2 ^ 62 ∧ j < 2 ^ 62 ∧ Q (.int ((Nat.lcm i j : Nat) : Int)) H
theorem cr_lcm : CallR X (.builtin "math.lcm") rLcm := by
  intro pins s σ H vs us Q I r h
  obtain ⟨i, j, rfl, hi, hj, q⟩ := h
  obtain ⟨u1, u2, rfl, r1, r2⟩ := r.two
  obtain ⟨t1, rfl⟩ := r1
  obtain ⟨t2, rfl⟩ := r2
  have e1 : ((i : Int)).natAbs = i := rfl
  have e2 : ((j : Int)).natAbs = j := rfl
  exact PySem.W.mc_lcm (by rw [e1]; exact Nat.lt_trans hi (by decide)) (by rw [e2]; exact Nat.lt_trans hj (by decide)) fun _ => ⟨.int _, H, I.tok _, ⟨_, rfl⟩, q⟩
end
end Ru

namespace W6
open PySem PySem.Spec PyProof.Rows L2
def top (i : Nat) : Stmt := PySem.Challenge.pw_warmswitch_k43_signs_of_prices.main.body.getD i (.Pass ⟨0, 0, 0, 0⟩)
abbrev s_check_number : Stmt := top 5
abbrev s_first_invalid : Stmt := top 7
abbrev s_sum_of_first : Stmt := top 8
abbrev s_same_rounds : Stmt := top 9
abbrev s_Prices_init : Stmt := inClass (top 12) 2
abbrev s_Prices_len : Stmt := inClass (top 12) 4
abbrev s_Prices_getitem : Stmt := inClass (top 12) 5
abbrev s_Prices_call : Stmt := inClass (top 12) 7
abbrev s_Prices_eq : Stmt := inClass (top 12) 8
abbrev s_Prices_mul : Stmt := inClass (top 12) 9
abbrev s__law_start : Stmt := top 14
abbrev s__law_drawn : Stmt := top 15
abbrev s__law_same : Stmt := top 16
abbrev s__law_outcome : Stmt := top 17
abbrev s__law_prices : Stmt := top 18
abbrev s__law_long : Stmt := top 19
abbrev s__law_refused : Stmt := top 20
abbrev s_law : Stmt := top 21
abbrev s_Prices_cents : Stmt := inClass (top 12) 3
theorem sc_check_number : FnScope ["number", "least", "greatest"] ["number", "least", "greatest"] (defScope s_check_number) := ⟨rfl, rfl, rfl, by decide +kernel, rfl, by decide +kernel, by decide +kernel⟩
theorem sc_first_invalid : FnScope ["values", "least", "greatest", "most", "index", "value"] ["values", "least", "greatest", "most"] (defScope s_first_invalid) := ⟨rfl, rfl, rfl, by decide +kernel, rfl, by decide +kernel, by decide +kernel⟩
theorem sc_sum_of_first : FnScope ["values", "count", "rounds", "rest"] ["values", "count"] (defScope s_sum_of_first) := ⟨rfl, rfl, rfl, by decide +kernel, rfl, by decide +kernel, by decide +kernel⟩
theorem sc_same_rounds : FnScope ["one", "other", "many"] ["one", "other"] (defScope s_same_rounds) := ⟨rfl, rfl, rfl, by decide +kernel, rfl, by decide +kernel, by decide +kernel⟩
theorem sc_Prices_init : FnScope ["self", "cents", "index"] ["self", "cents"] (defScope s_Prices_init) := ⟨rfl, rfl, rfl, by decide +kernel, rfl, by decide +kernel, by decide +kernel⟩
theorem sc_Prices_len : FnScope ["self"] ["self"] (defScope s_Prices_len) := ⟨rfl, rfl, rfl, by decide +kernel, rfl, by decide +kernel, by decide +kernel⟩
theorem sc_Prices_getitem : FnScope ["self", "at"] ["self", "at"] (defScope s_Prices_getitem) := ⟨rfl, rfl, rfl, by decide +kernel, rfl, by decide +kernel, by decide +kernel⟩
theorem sc_Prices_call : FnScope ["self", "count"] ["self", "count"] (defScope s_Prices_call) := ⟨rfl, rfl, rfl, by decide +kernel, rfl, by decide +kernel, by decide +kernel⟩
theorem sc_Prices_eq : FnScope ["self", "other"] ["self", "other"] (defScope s_Prices_eq) := ⟨rfl, rfl, rfl, by decide +kernel, rfl, by decide +kernel, by decide +kernel⟩
theorem sc_Prices_mul : FnScope ["self", "times", "multiplied", "price"] ["self", "times"] (defScope s_Prices_mul) := ⟨rfl, rfl, rfl, by decide +kernel, rfl, by decide +kernel, by decide +kernel⟩
theorem sc__law_start : FnScope ["_law_script", "_law_mixed", "_law_cell"] ["_law_script"] (defScope s__law_start) := ⟨rfl, rfl, rfl, by decide +kernel, rfl, by decide +kernel, by decide +kernel⟩
theorem sc__law_drawn : FnScope ["_law_state", "_law_count", "_law_result", "_law_cell"] ["_law_state", "_law_count"] (defScope s__law_drawn) := ⟨rfl, rfl, rfl, by decide +kernel, rfl, by decide +kernel, by decide +kernel⟩
theorem sc__law_same : FnScope ["_law_result", "_law_expected", "_law_k"] ["_law_result", "_law_expected"] (defScope s__law_same) := ⟨rfl, rfl, rfl, by decide +kernel, rfl, by decide +kernel, by decide +kernel⟩
theorem sc__law_outcome : FnScope ["_law_work", "e"] ["_law_work"] (defScope s__law_outcome) := ⟨rfl, rfl, rfl, by decide +kernel, rfl, by decide +kernel, by decide +kernel⟩
theorem sc__law_prices : FnScope ["_law_cents"] ["_law_cents"] (defScope s__law_prices) := ⟨rfl, rfl, rfl, by decide +kernel, rfl, by decide +kernel, by decide +kernel⟩
theorem sc__law_long : FnScope ["_law_state", "_law_row", "_law_k", "_law_prices_here", "_law_count"] ["_law_state"] (defScope s__law_long) := ⟨rfl, rfl, rfl, by decide +kernel, rfl, by decide +kernel, by decide +kernel⟩
theorem sc__law_refused : FnScope ["_law_prices_here", "_law_wrong", "_law_works", "_law_work"] ["_law_prices_here", "_law_wrong"] (defScope s__law_refused) := ⟨rfl, rfl, rfl, by decide +kernel, rfl, by decide +kernel, by decide +kernel⟩
theorem sc_law : FnScope ["_law_script", "_law_state", "_law_turn", "_law_cents", "_law_k", "_law_prices_here", "_law_count", "_law_size", "_law_whole", "_law_rest", "_law_other", "_law_same_here", "_law_twin", "_law_times", "_law_bad", "_law_found", "_law_one"] ["_law_script"] (defScope s_law) := ⟨rfl, rfl, rfl, by decide +kernel, rfl, by decide +kernel, by decide +kernel⟩
theorem sc_Prices_cents : FnScope ["self"] ["self"] (defScope s_Prices_cents) := ⟨rfl, rfl, rfl, by decide +kernel, rfl, by decide +kernel, by decide +kernel⟩
/-- where things stand -/
structure Ad where
  c_Prices : Addr
  c_Weather : Addr
  c_Heater : Addr
  c_Drift : Addr
  c_Stretch : Addr
  c_Timeline : Addr
  c_Course : Addr
  c_HeatingSum : Addr
  c_Room : Addr
  f_check_number : Addr
  d_check_number : FuncData
  f_first_invalid : Addr
  d_first_invalid : FuncData
  f_sum_of_first : Addr
  d_sum_of_first : FuncData
  f_same_rounds : Addr
  d_same_rounds : FuncData
  f_Prices_init : Addr
  d_Prices_init : FuncData
  f_Prices_len : Addr
  d_Prices_len : FuncData
  f_Prices_getitem : Addr
  d_Prices_getitem : FuncData
  f_Prices_call : Addr
  d_Prices_call : FuncData
  f_Prices_eq : Addr
  d_Prices_eq : FuncData
  f_Prices_mul : Addr
  d_Prices_mul : FuncData
  f__law_start : Addr
  d__law_start : FuncData
  f__law_drawn : Addr
  d__law_drawn : FuncData
  f__law_same : Addr
  d__law_same : FuncData
  f__law_outcome : Addr
  d__law_outcome : FuncData
  f__law_prices : Addr
  d__law_prices : FuncData
  f__law_long : Addr
  d__law_long : FuncData
  f__law_refused : Addr
  d__law_refused : FuncData
  f_law : Addr
  d_law : FuncData
  f_Prices_cents : Addr
  d_Prices_cents : FuncData
  p_Prices_cents : Addr
/-- what the written part says -/
structure Txt (K : PySem.W.Frag) (mg : Str → Option Value) (a : Ad) : Prop where
  cl_Prices : Cls K a.c_Prices
  mg_Prices : mg "Prices" = some (.ref a.c_Prices)
  na_Prices__cents : NoAttr K a.c_Prices "_cents"
  F_check_number : Fun K "check_number" "check_number" s_check_number a.f_check_number a.d_check_number
  mg_check_number : mg "check_number" = some (.ref a.f_check_number)
  F_first_invalid : Fun K "first_invalid" "first_invalid" s_first_invalid a.f_first_invalid a.d_first_invalid
  mg_first_invalid : mg "first_invalid" = some (.ref a.f_first_invalid)
  F_sum_of_first : Fun K "sum_of_first" "sum_of_first" s_sum_of_first a.f_sum_of_first a.d_sum_of_first
  mg_sum_of_first : mg "sum_of_first" = some (.ref a.f_sum_of_first)
  F_same_rounds : Fun K "same_rounds" "same_rounds" s_same_rounds a.f_same_rounds a.d_same_rounds
  mg_same_rounds : mg "same_rounds" = some (.ref a.f_same_rounds)
  F_Prices_init : Fun K "__init__" "Prices.__init__" s_Prices_init a.f_Prices_init a.d_Prices_init
  mk_Prices : Mk K a.c_Prices a.f_Prices_init
  F_Prices_len : Fun K "__len__" "Prices.__len__" s_Prices_len a.f_Prices_len a.d_Prices_len
  me_Prices_len : Meth K a.c_Prices "__len__" a.f_Prices_len
  F_Prices_getitem : Fun K "__getitem__" "Prices.__getitem__" s_Prices_getitem a.f_Prices_getitem a.d_Prices_getitem
  me_Prices_getitem : Meth K a.c_Prices "__getitem__" a.f_Prices_getitem
  F_Prices_call : Fun K "__call__" "Prices.__call__" s_Prices_call a.f_Prices_call a.d_Prices_call
  me_Prices_call : Meth K a.c_Prices "__call__" a.f_Prices_call
  F_Prices_eq : Fun K "__eq__" "Prices.__eq__" s_Prices_eq a.f_Prices_eq a.d_Prices_eq
  me_Prices_eq : Meth K a.c_Prices "__eq__" a.f_Prices_eq
  F_Prices_mul : Fun K "__mul__" "Prices.__mul__" s_Prices_mul a.f_Prices_mul a.d_Prices_mul
  me_Prices_mul : Meth K a.c_Prices "__mul__" a.f_Prices_mul
  F__law_start : Fun K "_law_start" "_law_start" s__law_start a.f__law_start a.d__law_start
  mg__law_start : mg "_law_start" = some (.ref a.f__law_start)
  F__law_drawn : Fun K "_law_drawn" "_law_drawn" s__law_drawn a.f__law_drawn a.d__law_drawn
  mg__law_drawn : mg "_law_drawn" = some (.ref a.f__law_drawn)
  F__law_same : Fun K "_law_same" "_law_same" s__law_same a.f__law_same a.d__law_same
  mg__law_same : mg "_law_same" = some (.ref a.f__law_same)
  F__law_outcome : Fun K "_law_outcome" "_law_outcome" s__law_outcome a.f__law_outcome a.d__law_outcome
  mg__law_outcome : mg "_law_outcome" = some (.ref a.f__law_outcome)
  F__law_prices : Fun K "_law_prices" "_law_prices" s__law_prices a.f__law_prices a.d__law_prices
  mg__law_prices : mg "_law_prices" = some (.ref a.f__law_prices)
  F__law_long : Fun K "_law_long" "_law_long" s__law_long a.f__law_long a.d__law_long
  mg__law_long : mg "_law_long" = some (.ref a.f__law_long)
  F__law_refused : Fun K "_law_refused" "_law_refused" s__law_refused a.f__law_refused a.d__law_refused
  mg__law_refused : mg "_law_refused" = some (.ref a.f__law_refused)
  F_law : Fun K "law" "law" s_law a.f_law a.d_law
  mg_law : mg "law" = some (.ref a.f_law)
  F_Prices_cents : Fun K "cents" "Prices.cents" s_Prices_cents a.f_Prices_cents a.d_Prices_cents
  pr_Prices_cents : PropOf K a.c_Prices "cents" a.p_Prices_cents a.f_Prices_cents
  mg_MOST_TICKS : ∃ t, mg "MOST_TICKS" = some (.int 1000000000000000000 t)
  mg_lcm : mg "lcm" = some (.builtin "math.lcm")
  z_bool : mg "bool" = none
  z_divmod : mg "divmod" = none
  z_enumerate : mg "enumerate" = none
  z_int : mg "int" = none
  z_isinstance : mg "isinstance" = none
  z_len : mg "len" = none
  z_list : mg "list" = none
  z_range : mg "range" = none
  z_sum : mg "sum" = none
  z_tuple : mg "tuple" = none
  cv_Prices_MAX_PRICE : ∃ t, Con K a.c_Prices "MAX_PRICE" (.int 1000000) (.int 1000000 t)
  cv_Prices_MAX_TICKS : ∃ t, Con K a.c_Prices "MAX_TICKS" (.int 24) (.int 24 t)
section
variable {K : PySem.W.Frag} {mg : Str → Option Value} {a : Ad}
theorem b_check_number (T : Txt K mg a) : Binds K a.d_check_number ["number", "least", "greatest"] [] := T.F_check_number.binds (ps := ["number", "least", "greatest"]) fun _ _ _ _ _ _ us hl => match us, hl with | [_, _, _], _ => rfl
theorem b_first_invalid (T : Txt K mg a) : Binds K a.d_first_invalid ["values", "least", "greatest", "most"] [] := T.F_first_invalid.binds (ps := ["values", "least", "greatest", "most"]) fun _ _ _ _ _ _ us hl => match us, hl with | [_, _, _, _], _ => rfl
theorem b_sum_of_first (T : Txt K mg a) : Binds K a.d_sum_of_first ["values", "count"] [] := T.F_sum_of_first.binds (ps := ["values", "count"]) fun _ _ _ _ _ _ us hl => match us, hl with | [_, _], _ => rfl
theorem b_same_rounds (T : Txt K mg a) : Binds K a.d_same_rounds ["one", "other"] [] := T.F_same_rounds.binds (ps := ["one", "other"]) fun _ _ _ _ _ _ us hl => match us, hl with | [_, _], _ => rfl
theorem b_Prices_len (T : Txt K mg a) : Binds K a.d_Prices_len ["self"] [] := T.F_Prices_len.binds (ps := ["self"]) fun _ _ _ _ _ _ us hl => match us, hl with | [_], _ => rfl
theorem b_Prices_getitem (T : Txt K mg a) : Binds K a.d_Prices_getitem ["self", "at"] [] := T.F_Prices_getitem.binds (ps := ["self", "at"]) fun _ _ _ _ _ _ us hl => match us, hl with | [_, _], _ => rfl
theorem b_Prices_call (T : Txt K mg a) : Binds K a.d_Prices_call ["self", "count"] [] := T.F_Prices_call.binds (ps := ["self", "count"]) fun _ _ _ _ _ _ us hl => match us, hl with | [_, _], _ => rfl
theorem b_Prices_eq (T : Txt K mg a) : Binds K a.d_Prices_eq ["self", "other"] [] := T.F_Prices_eq.binds (ps := ["self", "other"]) fun _ _ _ _ _ _ us hl => match us, hl with | [_, _], _ => rfl
theorem b_Prices_mul (T : Txt K mg a) : Binds K a.d_Prices_mul ["self", "times"] [] := T.F_Prices_mul.binds (ps := ["self", "times"]) fun _ _ _ _ _ _ us hl => match us, hl with | [_, _], _ => rfl
theorem b__law_start (T : Txt K mg a) : Binds K a.d__law_start ["_law_script"] [] := T.F__law_start.binds (ps := ["_law_script"]) fun _ _ _ _ _ _ us hl => match us, hl with | [_], _ => rfl
theorem b__law_drawn (T : Txt K mg a) : Binds K a.d__law_drawn ["_law_state", "_law_count"] [] := T.F__law_drawn.binds (ps := ["_law_state", "_law_count"]) fun _ _ _ _ _ _ us hl => match us, hl with | [_, _], _ => rfl
theorem b__law_same (T : Txt K mg a) : Binds K a.d__law_same ["_law_result", "_law_expected"] [] := T.F__law_same.binds (ps := ["_law_result", "_law_expected"]) fun _ _ _ _ _ _ us hl => match us, hl with | [_, _], _ => rfl
theorem b__law_outcome (T : Txt K mg a) : Binds K a.d__law_outcome ["_law_work"] [] := T.F__law_outcome.binds (ps := ["_law_work"]) fun _ _ _ _ _ _ us hl => match us, hl with | [_], _ => rfl
theorem b__law_prices (T : Txt K mg a) : Binds K a.d__law_prices ["_law_cents"] [] := T.F__law_prices.binds (ps := ["_law_cents"]) fun _ _ _ _ _ _ us hl => match us, hl with | [_], _ => rfl
theorem b__law_long (T : Txt K mg a) : Binds K a.d__law_long ["_law_state"] [] := T.F__law_long.binds (ps := ["_law_state"]) fun _ _ _ _ _ _ us hl => match us, hl with | [_], _ => rfl
theorem b__law_refused (T : Txt K mg a) : Binds K a.d__law_refused ["_law_prices_here", "_law_wrong"] [] := T.F__law_refused.binds (ps := ["_law_prices_here", "_law_wrong"]) fun _ _ _ _ _ _ us hl => match us, hl with | [_, _], _ => rfl
theorem b_law (T : Txt K mg a) : Binds K a.d_law ["_law_script"] [] := T.F_law.binds (ps := ["_law_script"]) fun _ _ _ _ _ _ us hl => match us, hl with | [_], _ => rfl
theorem b_Prices_cents (T : Txt K mg a) : Binds K a.d_Prices_cents ["self"] [] := T.F_Prices_cents.binds (ps := ["self"]) fun _ _ _ _ _ _ us hl => match us, hl with | [_], _ => rfl
end
end W6

/-! a head's facts, told by Bools and by what stands at the defs' places -/
namespace Hq
open PySem PySem.Spec PyProof.Rows L2
/-- the def behind a property -/
def gtA (K : PySem.W.Frag) (p : Addr) : Addr := match PySem.W.recIn K p "property" with
  | some (Value.ref f :: _rest) => f
  | _ => 0
def gtR (K : PySem.W.Frag) (p : Addr) : List Value := match PySem.W.recIn K p "property" with
  | some (Value.ref _f :: rest) => rest
  | _ => []
def gtB (K : PySem.W.Frag) (p : Addr) : Bool := match PySem.W.recIn K p "property" with
  | some (Value.ref _f :: _rest) => true
  | _ => false
theorem gtB_ok {K : PySem.W.Frag} {p : Addr} (h : gtB K p = true) : PySem.W.recIn K p "property" = some (.ref (gtA K p) :: gtR K p) := by
  unfold gtB at h
  unfold gtA gtR
  split at h
  · rename_i e; rw [e]
  · cases h
/-- the dict of a def's keyword defaults -/
def kvA : Value → Addr
  | .ref b => b
  | _ => 0
def kvB : Value → Bool
  | .ref _ => true
  | _ => false
def kwA (K : PySem.W.Frag) (f : Addr) : Addr := match K.lookup f with
  | some { data := Data.func d, .. } => kvA d.kwdefaults
  | _ => 0
def kwB (K : PySem.W.Frag) (f : Addr) : Bool := match K.lookup f with
  | some { data := Data.func d, .. } => kvB d.kwdefaults
  | _ => false
/-- what a def is made of -/
abbrev Mv : Type := Option (Str × Str × Arguments × FuncBody × Scope × Addr × List (Str × Addr) × Value × Addr)
def mo (K : PySem.W.Frag) (f : Addr) : Mv := match K.lookup f with
  | some { data := Data.func d, .. } => some (d.name, d.qualname, d.params, d.body, d.scope, d.globals, d.closure, d.defaults, d.builtins)
  | _ => none
def mv (name qual : Str) (st : Stmt) : Mv := some (name, qual, defArgs st, .stmts (defBody st), defScope st, mainGlobals, [], .none, builtinsNs)
def coB (K : PySem.W.Frag) (f : Addr) (q : Str) : Bool := match K.lookup f with
  | some { data := Data.func d, .. } => PySem.W.codeIn K d.code q
  | _ => false
theorem mo_ok {K : PySem.W.Frag} {f : Addr} {name qual : Str} {st : Stmt} (e : mo K f = mv name qual st) (c : coB K f qual = true) :
    ∃ oc od osl kV doc pm an cdv ct, K.lookup f = some ⟨oc, od, .func (PySem.W.fnOf name qual (defArgs st) (defBody st) (defScope st) .none kV doc pm an cdv ct), osl⟩ ∧ PySem.W.codeIn K cdv qual = true := by
  unfold mo at e
  unfold coB at c
  cases q : K.lookup f with
  | none => rw [q] at c; cases c
  | some o =>
    obtain ⟨oc, od, dt, osl⟩ := o
    rw [q] at c e
    cases dt with
    | func fd =>
      obtain ⟨n1, n2, n3, n4, n5, n6, n7, n8, n9, n10, n11, n12, n13, n14, n15⟩ := fd
      have e2 : (some (n1, n2, n3, n4, n5, n6, n7, n8, n15) : Mv) = some (name, qual, defArgs st, .stmts (defBody st), defScope st, mainGlobals, [], .none, builtinsNs) := e
      simp only [Option.some.injEq, Prod.mk.injEq] at e2
      obtain ⟨h1, h2, h3, h4, h5, h6, h7, h8, h9⟩ := e2
      subst h1 h2 h3 h4 h5 h6 h7 h8 h9
      exact ⟨oc, od, osl, n9, n10, n11, n12, n13, n14, rfl, c⟩
    | _ => cases c
theorem mo_okK {K : PySem.W.Frag} {f : Addr} {name qual : Str} {st : Stmt} (e : mo K f = mv name qual st) (c : coB K f qual = true) (b : kwB K f = true) :
    ∃ oc od osl doc pm an cdv ct, K.lookup f = some ⟨oc, od, .func (PySem.W.fnOf name qual (defArgs st) (defBody st) (defScope st) .none (.ref (kwA K f)) doc pm an cdv ct), osl⟩ ∧ PySem.W.codeIn K cdv qual = true := by
  obtain ⟨oc, od, osl, kV, doc, pm, an, cdv, ct, lk, co⟩ := mo_ok e c
  have ek : kV = .ref (kwA K f) := by
    unfold kwB at b
    unfold kwA
    rw [lk] at b ⊢
    have b2 : kvB kV = true := b
    show kV = .ref (kvA kV)
    cases kV with
    | ref d => rfl
    | _ => cases b2
  rw [ek] at lk
  exact ⟨oc, od, osl, doc, pm, an, cdv, ct, lk, co⟩
/-- a written int of the module -/
def inB (K : PySem.W.Frag) (x : Str) (i : Int) : Bool := match PySem.W.nsIn K mainGlobals x with
  | some (some (Value.int j _t)) => decide (j = i)
  | _ => false
theorem inB_ok {K : PySem.W.Frag} {x : Str} {i : Int} (h : inB K x i = true) : ∃ t, PySem.W.nsIn K mainGlobals x = some (some (.int i t)) := by
  unfold inB at h
  split at h
  · rename_i j t e
    rw [e, of_decide_eq_true h]
    exact ⟨t, rfl⟩
  · cases h
/-- a class's int -/
def cvB (K : PySem.W.Frag) (C : Addr) (x : Str) (i : Int) : Bool := match PySem.W.findIn K (.ref C) x with
  | some (some (Value.int j t)) => decide (j = i) && He.eqO (PySem.W.specialIn K (.int j t) "__get__") (some none)
  | _ => false
theorem cvB_ok {K : PySem.W.Frag} {C : Addr} {x : Str} {i : Int} (h : cvB K C x i = true) : ∃ t, PySem.W.findIn K (.ref C) x = some (some (.int i t)) ∧ PySem.W.specialIn K (.int i t) "__get__" = some none := by
  unfold cvB at h
  split at h
  · rename_i j t e
    obtain ⟨h1, h2⟩ := He.ba h
    have ej := of_decide_eq_true h1
    subst ej
    exact ⟨t, e, He.eqO_ok h2⟩
  · cases h
/-! ### the Hook -/
/-- the facts; where the defs stand, and what is to stand there -/
structure Spc where
  bs : PySem.W.Frag → List Bool
  fs : List ((PySem.W.Frag → Addr) × Mv)
abbrev Av : Type := Bool × List Mv
def obs (S : Spc) (K : PySem.W.Frag) : Av := ((S.bs K).all id, S.fs.map fun q => mo K (q.1 K))
def wanted (S : Spc) : Av := (true, S.fs.map fun q => q.2)
def Says (S : Spc) (K : PySem.W.Frag) : Prop := obs S K = wanted S
/-- what an object leads to: values, code, keyword defaults, a class's names -/
def refQ (o : Obj) : List Addr := match o.data with
  | .dict entries _ => entries.toList.flatMap fun q => He.refV q.val
  | .func d => He.refV d.code ++ He.refV d.kwdefaults
  | .cls d => [d.ns]
  | .fields parts => parts.toList.flatMap He.refV
  | _ => []
def lvl (g : Addr → Option Obj) (xs : List Addr) : List Addr := xs.flatMap fun b => match g b with
  | some o => refQ o
  | none => []
def asQ (g : Addr → Option Obj) : Nat → List Addr → List Addr
  | 0, xs => xs
  | n + 1, xs => xs ++ asQ g n (lvl g xs)
def obsG (n : Nat) (S : Spc) (g : Addr → Option Obj) : Av := obs S (He.frG g (asQ g n [mainGlobals]))
def hook (n : Nat) (S : Spc) : PySem.W.Hook where
  α := Av
  obs := fun s => obsG n S s.heap.get?
  val := fun _ => wanted S
  says := fun _ h => ∃ K : PySem.W.Frag, K.In h ∧ Says S K
  of := fun _ _ e => ⟨_, He.frG_in, e⟩
  keeps := fun _ _ _ ⟨K, hK, c⟩ k => ⟨K, hK.keeps k, c⟩
theorem obsG_eq {n : Nat} {S : Spc} {g : Addr → Option Obj} {s : Shared} (h : ∀ a, g a = s.heap.get? a) : obsG n S g = (hook n S).obs s := by
  obtain rfl : g = s.heap.get? := funext h
  rfl
section
variable {S : Spc} {K : PySem.W.Frag}
theorem Says.fact (c : Says S K) (i : Nat) {b : Bool} (h : (S.bs K)[i]? = some b) : b = true := by
  have c1 : (S.bs K).all id = true := congrArg (fun z : Av => z.1) c
  exact List.all_eq_true.mp c1 b (List.mem_of_getElem? h)
theorem Says.fn (c : Says S K) (i : Nat) {f : PySem.W.Frag → Addr} {v : Mv} (h : S.fs[i]? = some (f, v)) : mo K (f K) = v := by
  have c2 : (S.fs.map fun q => mo K (q.1 K)) = S.fs.map fun q => q.2 := congrArg (fun z : Av => z.2) c
  have e2 : (S.fs.map fun q => mo K (q.1 K))[i]? = (S.fs.map fun q => q.2)[i]? := by rw [← c2]
  rw [List.getElem?_map, List.getElem?_map, h] at e2
  exact Option.some.inj e2
end
end Hq

/-! a head's facts, further: tables of code objects, defs that close over __class__, errors' classes -/
namespace Hq2
open PySem PySem.Spec PyProof.Rows L2 Hq
/-! ### a def that closes over its class -/
abbrev Mx : Type := Option (Str × Str × Arguments × FuncBody × Scope × Addr × List Str × Value × Value × Addr)
def moX (K : PySem.W.Frag) (f : Addr) : Mx := match K.lookup f with
  | some { data := Data.func d, .. } => some (d.name, d.qualname, d.params, d.body, d.scope, d.globals, d.closure.map (·.1), d.defaults, d.kwdefaults, d.builtins)
  | _ => none
def mvX (name qual : Str) (st : Stmt) : Mx := some (name, qual, defArgs st, .stmts (defBody st), defScope st, mainGlobals, ["__class__"], .none, .none, builtinsNs)
def cellB (K : PySem.W.Frag) (a C : Addr) : Bool := match K.lookup a with
  | some { data := Data.cell (some (Value.ref D)), .. } => decide (D = C)
  | _ => false
theorem cellB_ok {K : PySem.W.Frag} {a C : Addr} (h : cellB K a C = true) : ∃ (cl : Value) (cld : Option Addr) (csl : Array (Option Value)), K.lookup a = some ⟨cl, cld, .cell (some (.ref C)), csl⟩ := by
  unfold cellB at h
  split at h
  · rename_i cl cld D csl hq
    have ed := of_decide_eq_true h
    subst ed
    exact ⟨_, _, _, hq⟩
  · cases h
def fileB (K : PySem.W.Frag) (v : Value) (file : Str) : Bool := match v with
  | Value.ref c => (match K.lookup c with
    | some { data := Data.fields vs, .. } => (match vs[2]? with
      | some (Value.str fl _) => decide (fl = file)
      | _ => false)
    | _ => false)
  | _ => false
theorem fileB_ok {K : PySem.W.Frag} {v : Value} {file : Str} (h : fileB K v file = true) : ∃ cda : Addr, v = .ref cda ∧ ∃ (ccl : Value) (cdd : Option Addr) (vs : Array Value) (ccs : Array (Option Value)) (tf : Tok), K.lookup cda = some ⟨ccl, cdd, .fields vs, ccs⟩ ∧ vs[2]? = some (.str file tf) := by
  unfold fileB at h
  split at h
  · rename_i c
    split at h
    · rename_i ccl cdd vs ccs hq
      split at h
      · rename_i fl tf hv
        have ef := of_decide_eq_true h
        subst ef
        exact ⟨c, rfl, _, _, _, _, tf, hq, hv⟩
      · cases h
    · cases h
  · cases h
def ccB (K : PySem.W.Frag) (f C : Addr) : Bool := match K.lookup f with
  | some { data := Data.func d, .. } => d.closure.all fun p => cellB K p.2 C
  | _ => false
def flB (K : PySem.W.Frag) (f : Addr) (file : Str) : Bool := match K.lookup f with
  | some { data := Data.func d, .. } => fileB K d.code file
  | _ => false
theorem mx_ok {K : PySem.W.Frag} {f C : Addr} {name qual file : Str} {st : Stmt} (e : moX K f = mvX name qual st) (c : coB K f qual = true) (h1 : ccB K f C = true) (h2 : flB K f file = true) :
    ∃ (oc : Value) (od : Option Addr) (doc pm : Value) (an : Option Addr) (cda cc : Addr) (ct : Value) (osl : Array (Option Value)),
      K.lookup f = some ⟨oc, od, .func (PySem.W.ksFn name qual (defArgs st) (defBody st) (defScope st) .none .none doc pm an (.ref cda) ct cc), osl⟩ ∧ PySem.W.codeIn K (.ref cda) qual = true ∧
      (∃ (ccl : Value) (cdd : Option Addr) (vs : Array Value) (ccs : Array (Option Value)) (tf : Tok), K.lookup cda = some ⟨ccl, cdd, .fields vs, ccs⟩ ∧ vs[2]? = some (.str file tf)) ∧
      (∃ (cl : Value) (cld : Option Addr) (csl : Array (Option Value)), K.lookup cc = some ⟨cl, cld, .cell (some (.ref C)), csl⟩) := by
  unfold moX at e
  unfold coB at c
  unfold ccB at h1
  unfold flB at h2
  cases q : K.lookup f with
  | none => rw [q] at c; cases c
  | some o =>
    obtain ⟨oc, od, dt, osl⟩ := o
    rw [q] at c e h1 h2
    cases dt with
    | func fd =>
      obtain ⟨n1, n2, n3, n4, n5, n6, n7, n8, n9, n10, n11, n12, n13, n14, n15⟩ := fd
      have e2 : (some (n1, n2, n3, n4, n5, n6, n7.map (·.1), n8, n9, n15) : Mx) = (some (name, qual, defArgs st, FuncBody.stmts (defBody st), defScope st, mainGlobals, ["__class__"], Value.none, Value.none, builtinsNs) : Mx) := e
      simp only [Option.some.injEq, Prod.mk.injEq] at e2
      obtain ⟨e1, e3, e4, e5, e6, e7, e8, e9, e10, e11⟩ := e2
      subst e1 e3 e4 e5 e6 e7 e9 e10 e11
      have h1 : (n7.all fun p => cellB K p.2 C) = true := h1
      have h2 : fileB K n13 file = true := h2
      have ln : n7.length = 1 := by
        have z := congrArg List.length e8
        rw [List.length_map] at z
        exact z
      match n7, ln with
      | [(nm, cc)], _ =>
        have enm : nm = ("__class__" : Str) := (List.cons.inj e8).1
        subst enm
        obtain ⟨cda, rfl, hc⟩ := fileB_ok h2
        have h1 : (cellB K cc C && true) = true := h1
        rw [Bool.and_true] at h1
        exact ⟨oc, od, n10, n11, n12, cda, cc, n14, osl, rfl, c, hc, cellB_ok h1⟩
    | _ => cases c
/-! ### an error's class -/
def ixClsB (K : PySem.W.Frag) (C : Addr) : Bool := match K.lookup C with
  | some ⟨Value.type "type", _, Data.cls cd, sl⟩ => (match cd.mro, sl.toList with
    | Value.ref D :: bm, [_, _, _, _, some (Value.builtin n), _] => decide (D = C) && (decide (n = "ValueError.__new__") && (!cd.hasDel && (cd.hasDict && PySem.HandSPX.refsVE bm)))
    | _, _ => false)
  | _ => false
theorem ixClsB_ok {K : PySem.W.Frag} {C : Addr} (h : ixClsB K C = true) : ∃ nm q N bs bm sn sub ab col dd k0 k1 k2 k3 k5, K.lookup C = some (excClassObj nm q C N bs bm true sn sub ab col dd k0 k1 k2 k3 k5 "ValueError.__new__") ∧ PySem.HandSPX.refsVE bm = true := by
  unfold ixClsB at h
  split at h
  · rename_i dd cd sl ho
    split at h
    · rename_i D bm k0 k1 k2 k3 n k5 hm hs
      obtain ⟨a1, h⟩ := He.ba h
      obtain ⟨a2, h⟩ := He.ba h
      obtain ⟨a3, h⟩ := He.ba h
      obtain ⟨a4, a5⟩ := He.ba h
      have e1 := of_decide_eq_true a1
      have e2 := of_decide_eq_true a2
      subst e1 e2
      obtain ⟨nm, bs, mro, ns, qn, hd, sn, sub, ab, col, del⟩ := cd
      have e3 : del = false := by simpa using a3
      have e4 : hd = true := a4
      have e5 : mro = Value.ref D :: bm := hm
      subst e3 e4 e5
      have hsl : sl = #[k0, k1, k2, k3, some (.builtin "ValueError.__new__"), k5] := by
        obtain ⟨l⟩ := sl
        have hs : l = _ := hs
        rw [hs]
      subst hsl
      exact ⟨nm, qn, ns, bs, bm, sn, sub, ab, col, dd, k0, k1, k2, k3, k5, ho, a5⟩
    · cases h
  · cases h
def excB (K : PySem.W.Frag) (D : Addr) : Bool := He.eqO (PySem.W.findIn K (.ref D) "__getattribute__") (some (some (.builtin "BaseException.__getattribute__"))) && (He.eqO (PySem.W.findIn K (.ref D) "__getattr__") (some none) &&
  (decide (PySem.W.subIn K (.ref D) (.type "BaseException") = some true) && (PySem.W.hasDictIn K D && (He.eqO (PySem.W.findIn K (.ref D) "__class__") (some (some (.builtin "object.__class__"))) &&
  (He.eqO (PySem.W.specialIn K (.builtin "object.__class__") "__get__") (some (some (.builtin "getset_descriptor.__get__"))) && (decide (PySem.W.takesIn K (.builtin "object.__class__") = some true) && decide (PySem.W.mroIn K D (.type "object") = some true)))))))
theorem excB_ok {K : PySem.W.Frag} {D : Addr} (h : excB K D = true) : ExcC K D := by
  obtain ⟨h1, h⟩ := He.ba h
  obtain ⟨h2, h⟩ := He.ba h
  obtain ⟨h3, h⟩ := He.ba h
  obtain ⟨h4, h⟩ := He.ba h
  obtain ⟨h5, h⟩ := He.ba h
  obtain ⟨h6, h⟩ := He.ba h
  obtain ⟨h7, h8⟩ := He.ba h
  exact ⟨He.eqO_ok h1, He.eqO_ok h2, of_decide_eq_true h3, h4, He.eqO_ok h5, He.eqO_ok h6, of_decide_eq_true h7, of_decide_eq_true h8⟩
/-- what IxTxt asks of the class beside the def's text -/
def ixB (K : PySem.W.Frag) (C : Addr) : Bool := ixClsB K C && (He.eqO (PySem.W.findIn K (.ref C) "__setattr__") (some (some (.builtin "object.__setattr__"))) && (He.eqO (PySem.W.findIn K (.ref C) "index") (some none) &&
  (He.eqO (PySem.W.findIn K (.ref C) "__init__") (some (some (.ref (He.ma K C "__init__")))) && (decide (PySem.W.typeIn K (.ref (He.ma K C "__init__")) = some (.type "function")) && (PySem.W.keepIn K (.ref C) &&
  (decide (PySem.W.typeIn K (.ref C) = some (.type "type")) && (decide (PySem.W.mroIn K C (.ref C) = some true) && (He.eqO (PySem.W.ks_superIn K C C "__init__") (some (some (.builtin "ValueError.__init__"))) &&
  (decide (PySem.W.subIn K (.ref C) (.type "ValueError") = some true) && He.eqO (PySem.W.nsIn K cStatics "thirdparty.any") (some none))))))))))
/-! ### a class's constant, read off the class -/
def cvalB (K : PySem.W.Frag) (C : Addr) (x : Str) (i : Int) : Bool := match PySem.W.findCls K (.ref C) (.type "type") x with
  | some (.val (.int j _)) => decide (j = i)
  | _ => false
theorem cvalB_ok {K : PySem.W.Frag} {C : Addr} {x : Str} {i : Int} (h : cvalB K C x i = true) : ∃ t, ClX.CVal K C (.type "type") x (.int i) (.int i t) := by
  unfold cvalB at h
  split at h
  · rename_i j t e
    have ej := of_decide_eq_true h
    subst ej
    exact ⟨t, e, ⟨t, rfl⟩⟩
  · cases h
/-! ### the Hook -/
structure Spc where
  bs : PySem.W.Frag → List Bool
  fs : List ((PySem.W.Frag → Addr) × Mv)
  xs : List ((PySem.W.Frag → Addr) × Mx)
  cs : PySem.W.Frag → List (Addr × Addr)
abbrev Av : Type := Bool × List Mv × List Mx
def obsK (S : Spc) (K : PySem.W.Frag) : Av := ((S.bs K).all id, S.fs.map fun q => mo K (q.1 K), S.xs.map fun q => moX K (q.1 K))
def tabB (S : Spc) (g : Addr → Option Obj) (K : PySem.W.Frag) : Bool := (S.cs K).all fun p => PySem.W.codeHdIn K p.1 p.2 && (match g p.2 with
  | some o => He.emptyTab o
  | none => false)
def wanted (S : Spc) : Av := (true, S.fs.map fun q => q.2, S.xs.map fun q => q.2)
def refX (o : Obj) : List Addr := match o.data with
  | .dict entries _ => entries.toList.flatMap fun q => He.refV q.val
  | .func d => He.refV d.code ++ He.refV d.kwdefaults ++ d.closure.map (·.2)
  | .cls d => [d.ns]
  | .fields parts => parts.toList.flatMap He.refV
  | _ => []
def lvl (g : Addr → Option Obj) (xs : List Addr) : List Addr := xs.flatMap fun b => match g b with
  | some o => refX o
  | none => []
def asX (g : Addr → Option Obj) : Nat → List Addr → List Addr
  | 0, xs => xs
  | n + 1, xs => xs ++ asX g n (lvl g xs)
def frX (n : Nat) (g : Addr → Option Obj) : PySem.W.Frag := He.frT g (cStatics :: asX g n [mainGlobals])
def obsG (n : Nat) (S : Spc) (g : Addr → Option Obj) : Av × Bool := (obsK S (frX n g), tabB S g (frX n g))
/-- what is told of the written part -/
structure Says (S : Spc) (h : Heap) (K : PySem.W.Frag) : Prop where
  k : obsK S K = wanted S
  hd : ∀ p ∈ S.cs K, PySem.W.codeHdIn K p.1 p.2 = true
  out : ∀ p ∈ S.cs K, K.lookup p.2 = none
  empty : ∀ p ∈ S.cs K, h.get? p.2 = some { cls := .none, data := .fields #[] }
theorem says_of {n : Nat} {S : Spc} {h : Heap} (e : obsG n S h.get? = (wanted S, true)) : Says S h (frX n h.get?) := by
  have e1 : obsK S (frX n h.get?) = wanted S := congrArg (fun z : Av × Bool => z.1) e
  have e2 : tabB S h.get? (frX n h.get?) = true := congrArg (fun z : Av × Bool => z.2) e
  have key : ∀ p ∈ S.cs (frX n h.get?), PySem.W.codeHdIn (frX n h.get?) p.1 p.2 = true ∧ ∃ o, h.get? p.2 = some o ∧ He.emptyTab o = true := fun p hp => by
    obtain ⟨h3, h4⟩ := He.ba (List.all_eq_true.mp e2 p hp)
    refine ⟨h3, ?_⟩
    cases q : h.get? p.2 with
    | none => rw [q] at h4; cases h4
    | some o => rw [q] at h4; exact ⟨o, rfl, h4⟩
  refine ⟨e1, fun p hp => (key p hp).1, fun p hp => ?_, fun p hp => ?_⟩
  · obtain ⟨_, o, q, z⟩ := key p hp
    exact He.frT_none q z
  · obtain ⟨_, o, q, z⟩ := key p hp
    rw [q, He.emptyTab_eq z]
def hook (n : Nat) (S : Spc) : PySem.W.Hook where
  α := Av × Bool
  obs := fun s => obsG n S s.heap.get?
  val := fun _ => (wanted S, true)
  says := fun _ h => ∃ K : PySem.W.Frag, K.In h ∧ Says S h K
  of := fun _ _ e => ⟨_, He.frT_in, says_of e⟩
  keeps := fun _ _ _ ⟨K, hK, c⟩ k => ⟨K, PySem.W.Frag.In.keeps hK k, ⟨c.k, c.hd, c.out, fun p hp => k _ _ (c.empty p hp)⟩⟩
theorem obsG_eq {n : Nat} {S : Spc} {g : Addr → Option Obj} {s : Shared} (h : ∀ a, g a = s.heap.get? a) : obsG n S g = (hook n S).obs s := by
  obtain rfl : g = s.heap.get? := funext h
  rfl
section
variable {S : Spc} {K : PySem.W.Frag} {h : Heap}
theorem Says.fact (c : Says S h K) (i : Nat) {b : Bool} (e : (S.bs K)[i]? = some b) : b = true := by
  have c1 : (S.bs K).all id = true := congrArg (fun z : Av => z.1) c.k
  exact List.all_eq_true.mp c1 b (List.mem_of_getElem? e)
theorem Says.fn (c : Says S h K) (i : Nat) {f : PySem.W.Frag → Addr} {v : Mv} (e : S.fs[i]? = some (f, v)) : mo K (f K) = v := by
  have c2 : (S.fs.map fun q => mo K (q.1 K)) = S.fs.map fun q => q.2 := congrArg (fun z : Av => z.2.1) c.k
  have e2 : (S.fs.map fun q => mo K (q.1 K))[i]? = (S.fs.map fun q => q.2)[i]? := by rw [← c2]
  rw [List.getElem?_map, List.getElem?_map, e] at e2
  exact Option.some.inj e2
theorem Says.fx (c : Says S h K) (i : Nat) {f : PySem.W.Frag → Addr} {v : Mx} (e : S.xs[i]? = some (f, v)) : moX K (f K) = v := by
  have c2 : (S.xs.map fun q => moX K (q.1 K)) = S.xs.map fun q => q.2 := congrArg (fun z : Av => z.2.2) c.k
  have e2 : (S.xs.map fun q => moX K (q.1 K))[i]? = (S.xs.map fun q => q.2)[i]? := by rw [← c2]
  rw [List.getElem?_map, List.getElem?_map, e] at e2
  exact Option.some.inj e2
end
/-! ### the end: the written part is told by what the head says -/
theorem walk_tab {l : PySem.W.OpenLaw} {n k : Nat} {q : Program} {loose : List Str} {XP : (Str → Option Value) → Heap → Prop} {YP : World → Heap → Prop} {d : DefRec} {CX : World → CXT} {x : Str}
    (hn : l.most = some n) (hn2 : n ≤ sizeLine) (hdf : d.params.defaults = []) (hr : Room k callerA)
    (F : ∀ (w : World) (mg : Str → Option Value) (fa : Addr) (h : Heap), YP w h → h.Ns mainGlobals mg → mg d.name = some (.ref fa) → ∃ K : PySem.W.Frag, K.In h ∧ LamX.LawAtS l w K (CX w) k n x mg fa h)
    (hCX : ∀ (w : World) (H : Hp) (s : Shared) (e : Value) (s' : Shared), CX w [] H s (fun _ _ _ => False) e s' → False) :
    PySem.W.WalkO q loose XP YP l.row.toRowW d [] (fun f vs => PySem.call f vs) := by
  refine Att.attach_callB hn hdf fun w s₀ s₁ mg mb fa o pm cd doc a vs ns G Y ho hd hcd hmg hobj hints hlen hbits hg => ?_
  obtain ⟨K, KX, fd, cs, sp, hT, nT, C, hb, hsp, hF⟩ := F w mg fa _ Y G.T.g hmg
  exact LamX.law_callTs KX G.T.g G.T.b G.T.builtins G.T.nolimit hg hT nT C G.T.bmain hobj hints (Nat.le_trans hlen hn2) hr hF hb (fun H hH hS => hsp H a ns hlen hbits hH hS) fun H e s' => hCX w H s₁ e s'
end Hq2

/-! the kernel's run in parts: each part runs the top anew and looks at something else -/
noncomputable section
namespace Hq3
open PySem PySem.Spec PyProof.Rows PySem.W HandSHeadRun
def app (S T : Hq2.Spc) : Hq2.Spc := ⟨fun K => S.bs K ++ T.bs K, S.fs ++ T.fs, S.xs ++ T.xs, fun K => S.cs K ++ T.cs K⟩
theorem obsG_app {n : Nat} {S T : Hq2.Spc} {g : Addr → Option Obj} (h1 : Hq2.obsG n S g = (Hq2.wanted S, true)) (h2 : Hq2.obsG n T g = (Hq2.wanted T, true)) : Hq2.obsG n (app S T) g = (Hq2.wanted (app S T), true) := by
  unfold Hq2.obsG at *
  generalize Hq2.frX n g = K at *
  have a1 := congrArg (fun z : Hq2.Av × Bool => z.1.1) h1
  have a2 := congrArg (fun z : Hq2.Av × Bool => z.1.2.1) h1
  have a3 := congrArg (fun z : Hq2.Av × Bool => z.1.2.2) h1
  have a4 := congrArg (fun z : Hq2.Av × Bool => z.2) h1
  have b1 := congrArg (fun z : Hq2.Av × Bool => z.1.1) h2
  have b2 := congrArg (fun z : Hq2.Av × Bool => z.1.2.1) h2
  have b3 := congrArg (fun z : Hq2.Av × Bool => z.1.2.2) h2
  have b4 := congrArg (fun z : Hq2.Av × Bool => z.2) h2
  dsimp only [Hq2.obsK, Hq2.wanted] at a1 a2 a3 b1 b2 b3
  dsimp only at a4 b4
  have e1 : Hq2.obsK (app S T) K = Hq2.wanted (app S T) := by
    unfold Hq2.obsK Hq2.wanted app
    simp only [List.map_append, List.all_append, a1, a2, a3, b1, b2, b3]
    rfl
  have e2 : Hq2.tabB (app S T) g K = true := by
    unfold Hq2.tabB app at *
    rw [List.all_append, a4, b4]
    rfl
  rw [e1, e2]
/-- the top's run, to its end -/
abbrev whole (r : OpenRow) (M : Nat) (w : World) := wholeF (fun p => stepQ (denQ tabQ) p w) fenceQ M r.prog
theorem run_of {r : OpenRow} {q : Program} {n M : Nat} {S : Hq2.Spc} {ob : SharedT → Hq2.Av × Bool} {loose : List PySem.Str} {w : World} (ho : ∀ s, ob s = Hq2.obsG n S (HandSHeadRun.getT s)) (a : (whole r M w).map (fun x => looksF r.prog x.1.heap x.2.abs) = some true)
    (b : (whole r M w).map (fun x => seenQ q loose (importedModules r.prog.main.body) (fun s => xlAt q [] s && recOk r.toRowW.records s) x.2.abs) = some (openGood q loose))
    (c : (whole r M w).map (fun x => Hq2.obsG n S (HandSHeadRun.getT x.2)) = some (Hq2.wanted S, true)) : RunEqI r q (Hq2.hook n S) ob M loose w := by
  show (whole r M w).map _ = _
  cases e : whole r M w with
  | none => rw [e] at a; cases a
  | some x =>
    rw [e] at a b c
    simp only [Option.map_some, Option.some.injEq] at a b c ⊢
    rw [a, b, ho, c]
    rfl
theorem run_app {r : OpenRow} {n M : Nat} {S T : Hq2.Spc} {w : World} (c : (whole r M w).map (fun x => Hq2.obsG n S (HandSHeadRun.getT x.2)) = some (Hq2.wanted S, true)) (d : (whole r M w).map (fun x => Hq2.obsG n T (HandSHeadRun.getT x.2)) = some (Hq2.wanted T, true)) :
    (whole r M w).map (fun x => Hq2.obsG n (app S T) (HandSHeadRun.getT x.2)) = some (Hq2.wanted (app S T), true) := by
  cases e : whole r M w with
  | none => rw [e] at c; cases c
  | some x =>
    rw [e] at c d
    simp only [Option.map_some, Option.some.injEq] at c d ⊢
    exact obsG_app c d
end Hq3

namespace W6
open PySem PySem.Spec PyProof.Rows L2 Ru StX
def isS {α : Type} : Option α → Bool | some _ => true | none => false
def gloB (K : PySem.W.Frag) (x : Str) : Bool := He.eqO (PySem.W.nsIn K mainGlobals x) (some (some (.ref (He.ga K x))))
def epL (K : PySem.W.Frag) (nm : Str) : List Bool := [gloB K nm, Hq2.excB K (He.ga K nm), PySem.W.excIn K (He.ga K nm) [.type "ValueError", .type "Exception", .type "BaseException", .type "object"] "ValueError.__new__", PySem.W.keepIn K (.ref (He.ga K nm)), decide (PySem.W.subIn K (.ref (He.ga K nm)) (.type "BaseException") = some true), decide (PySem.W.typeIn K (.ref (He.ga K nm)) = some (Value.type "type"))]
def eiL (K : PySem.W.Frag) (nm q file : Str) : List Bool := [gloB K nm, Hq2.excB K (He.ga K nm), He.eqO (PySem.W.nsIn K mainGlobals "super") (some none), Hq2.ixB K (He.ga K nm), Hq.coB K (He.ma K (He.ga K nm) "__init__") q, Hq2.ccB K (He.ma K (He.ga K nm) "__init__") (He.ga K nm), Hq2.flB K (He.ma K (He.ga K nm) "__init__") file]
def xmB (K : PySem.W.Frag) (x y : Str) (c : Bool) : Bool := decide (PySem.W.exmOne K (.ref (He.ga K x)) (.ref (He.ga K y)) = some c)

abbrev s_IX_InvalidPrices : Stmt := inClass (top 4) 0

def poL (K : PySem.W.Frag) : List Bool := [mroHd K (He.ga K "Prices"), He.eqO (PySem.W.findIn K (.ref (He.ga K "Prices")) "__ne__") (some (some (.builtin "object.__ne__"))),
  He.eqO (PySem.W.findIn K (.ref (He.ga K "Prices")) "__eq__") (some (some (.ref (He.ma K (He.ga K "Prices") "__eq__")))), PySem.W.isFn K (.ref (He.ma K (He.ga K "Prices") "__eq__")), PySem.W.makesIn K (He.ga K "Prices"),
  decide (PySem.W.kitOne K (.ref (He.ga K "Prices")) (.ref (He.ga K "Prices")) = some true), He.eqO (PySem.W.findIn K (.ref (He.ga K "Prices")) "__class__") (some (some (.builtin "object.__class__"))),
  He.eqO (PySem.W.specialIn K (.builtin "object.__class__") "__get__") (some (some (.builtin "getset_descriptor.__get__"))), decide (PySem.W.takesIn K (.builtin "object.__class__") = some true), decide (PySem.W.mroIn K (He.ga K "Prices") (.type "object") = some true),
  PySem.W.selfFirst K (He.ga K "Prices"), He.eqO (PySem.W.findIn K (.ref (He.ga K "Prices")) (PySem.dunder "mul")) (some (some (.ref (He.ma K (He.ga K "Prices") "__mul__")))), PySem.W.isFn K (.ref (He.ma K (He.ga K "Prices") "__mul__")),
  He.eqO (PySem.W.findIn K (.ref (He.ga K "Prices")) (dunderR "mul")) (some none), isS (PySem.W.findIn K (.type "int") (PySem.dunder "mul")), isS (PySem.W.findIn K (.type "int") (dunderR "mul")), decide (PySem.W.subIn K (.type "int") (.ref (He.ga K "Prices")) = some false),
  PySem.W.notFirst K (He.ga K "Prices") (.ref (He.ga K "Prices")), PySem.W.notFirst K (He.ga K "Prices") (.type "int"), PySem.W.notFirst K (He.ga K "Prices") (.type "tuple"), PySem.W.fnIn K (He.ma K (He.ga K "Prices") "__call__"), PySem.W.fnIn K (He.ma K (He.ga K "Prices") "__getitem__"),
  decide (PySem.W.kitOne K (.type "tuple") (.ref (He.ga K "Prices")) = some false), PySem.W.readsIn K (He.ga K "Prices") (.type "type"), He.eqO (PySem.W.specialIn K (.ref (He.ga K "Prices")) "__getattribute__") (some (some (.builtin "type.__getattribute__"))),
  Hq2.cvalB K (He.ga K "Prices") "MAX_TICKS" 24, Hq2.cvalB K (He.ga K "Prices") "MAX_PRICE" 1000000]

def nqB (K : PySem.W.Frag) : Bool := !decide ((He.cT K ("law", none)).2 = (He.cT K ("_law_refused", none)).2)
abbrev hR : PySem.W.OpenRow := PySem.W.OpenLaw.row PySem.Challenge.rw_warmswitch_k43_signs_of_prices
def hb0 (K : PySem.W.Frag) : List Bool := [
  He.eqO (PySem.W.nsIn K mainGlobals "Prices") (some (some (.ref (He.ga K "Prices")))),
  PySem.W.plainGet K (He.ga K "Prices") Str.empty,
  PySem.W.hasDictIn K (He.ga K "Prices"),
  PySem.W.plainOver K (He.ga K "Prices"),
  He.eqO (PySem.W.findIn K (.ref (He.ga K "Prices")) "__setattr__") (some (some (.builtin "object.__setattr__"))),
  He.eqO (PySem.W.findIn K (.ref (He.ga K "Prices")) "_cents") (some none),
  He.eqO (PySem.W.nsIn K mainGlobals "check_number") (some (some (.ref (He.ga K "check_number")))),
  PySem.W.keepIn K (.ref (He.ga K "check_number")),
  He.eqO (PySem.W.nsIn K mainGlobals "first_invalid") (some (some (.ref (He.ga K "first_invalid")))),
  PySem.W.keepIn K (.ref (He.ga K "first_invalid")),
  He.eqO (PySem.W.nsIn K mainGlobals "sum_of_first") (some (some (.ref (He.ga K "sum_of_first")))),
  PySem.W.keepIn K (.ref (He.ga K "sum_of_first")),
  He.eqO (PySem.W.nsIn K mainGlobals "same_rounds") (some (some (.ref (He.ga K "same_rounds")))),
  PySem.W.keepIn K (.ref (He.ga K "same_rounds")),
  He.eqO (PySem.W.findIn K (.ref (He.ga K "Prices")) "__init__") (some (some (.ref (He.ma K (He.ga K "Prices") "__init__")))),
  PySem.W.isFn K (.ref (He.ma K (He.ga K "Prices") "__init__")),
  PySem.W.keepIn K (.ref (He.ma K (He.ga K "Prices") "__init__")),
  PySem.W.makesIn K (He.ga K "Prices"),
  PySem.W.keepIn K (.ref (He.ga K "Prices")),
  He.eqO (PySem.W.findIn K (.ref (He.ga K "Prices")) "__len__") (some (some (.ref (He.ma K (He.ga K "Prices") "__len__")))),
  PySem.W.isFn K (.ref (He.ma K (He.ga K "Prices") "__len__")),
  PySem.W.keepIn K (.ref (He.ma K (He.ga K "Prices") "__len__")),
  He.eqO (PySem.W.findIn K (.ref (He.ga K "Prices")) "__getitem__") (some (some (.ref (He.ma K (He.ga K "Prices") "__getitem__")))),
  PySem.W.isFn K (.ref (He.ma K (He.ga K "Prices") "__getitem__")),
  PySem.W.keepIn K (.ref (He.ma K (He.ga K "Prices") "__getitem__")),
  He.eqO (PySem.W.findIn K (.ref (He.ga K "Prices")) "__call__") (some (some (.ref (He.ma K (He.ga K "Prices") "__call__")))),
  PySem.W.isFn K (.ref (He.ma K (He.ga K "Prices") "__call__")),
  PySem.W.keepIn K (.ref (He.ma K (He.ga K "Prices") "__call__")),
  He.eqO (PySem.W.findIn K (.ref (He.ga K "Prices")) "__eq__") (some (some (.ref (He.ma K (He.ga K "Prices") "__eq__")))),
  PySem.W.isFn K (.ref (He.ma K (He.ga K "Prices") "__eq__"))]
def hb1 (K : PySem.W.Frag) : List Bool := [
  PySem.W.keepIn K (.ref (He.ma K (He.ga K "Prices") "__eq__")),
  He.eqO (PySem.W.findIn K (.ref (He.ga K "Prices")) "__mul__") (some (some (.ref (He.ma K (He.ga K "Prices") "__mul__")))),
  PySem.W.isFn K (.ref (He.ma K (He.ga K "Prices") "__mul__")),
  PySem.W.keepIn K (.ref (He.ma K (He.ga K "Prices") "__mul__")),
  He.eqO (PySem.W.nsIn K mainGlobals "_law_start") (some (some (.ref (He.ga K "_law_start")))),
  PySem.W.keepIn K (.ref (He.ga K "_law_start")),
  He.eqO (PySem.W.nsIn K mainGlobals "_law_drawn") (some (some (.ref (He.ga K "_law_drawn")))),
  PySem.W.keepIn K (.ref (He.ga K "_law_drawn")),
  He.eqO (PySem.W.nsIn K mainGlobals "_law_same") (some (some (.ref (He.ga K "_law_same")))),
  PySem.W.keepIn K (.ref (He.ga K "_law_same")),
  He.eqO (PySem.W.nsIn K mainGlobals "_law_outcome") (some (some (.ref (He.ga K "_law_outcome")))),
  PySem.W.keepIn K (.ref (He.ga K "_law_outcome")),
  He.eqO (PySem.W.nsIn K mainGlobals "_law_prices") (some (some (.ref (He.ga K "_law_prices")))),
  PySem.W.keepIn K (.ref (He.ga K "_law_prices")),
  He.eqO (PySem.W.nsIn K mainGlobals "_law_long") (some (some (.ref (He.ga K "_law_long")))),
  PySem.W.keepIn K (.ref (He.ga K "_law_long")),
  He.eqO (PySem.W.nsIn K mainGlobals "_law_refused") (some (some (.ref (He.ga K "_law_refused")))),
  PySem.W.keepIn K (.ref (He.ga K "_law_refused")),
  He.eqO (PySem.W.nsIn K mainGlobals "law") (some (some (.ref (He.ga K "law")))),
  PySem.W.keepIn K (.ref (He.ga K "law")),
  He.eqO (PySem.W.findIn K (.ref (He.ga K "Prices")) "cents") (some (some (.ref (He.ma K (He.ga K "Prices") "cents")))),
  He.eqO (PySem.W.specialIn K (.ref (He.ma K (He.ga K "Prices") "cents")) "__get__") (some (some (.builtin "property.__get__"))),
  decide (PySem.W.takesIn K (.ref (He.ma K (He.ga K "Prices") "cents")) = some true),
  Hq.gtB K (He.ma K (He.ga K "Prices") "cents"),
  PySem.W.keepIn K (.ref (Hq.gtA K (He.ma K (He.ga K "Prices") "cents"))),
  Hq.inB K "MOST_TICKS" 1000000000000000000,
  He.eqO (PySem.W.nsIn K mainGlobals "lcm") (some (some (.builtin "math.lcm"))),
  He.eqO (PySem.W.nsIn K mainGlobals "bool") (some none),
  He.eqO (PySem.W.nsIn K mainGlobals "divmod") (some none),
  He.eqO (PySem.W.nsIn K mainGlobals "enumerate") (some none)]
def hb2 (K : PySem.W.Frag) : List Bool := [
  He.eqO (PySem.W.nsIn K mainGlobals "int") (some none),
  He.eqO (PySem.W.nsIn K mainGlobals "isinstance") (some none),
  He.eqO (PySem.W.nsIn K mainGlobals "len") (some none),
  He.eqO (PySem.W.nsIn K mainGlobals "list") (some none),
  He.eqO (PySem.W.nsIn K mainGlobals "range") (some none),
  He.eqO (PySem.W.nsIn K mainGlobals "sum") (some none),
  He.eqO (PySem.W.nsIn K mainGlobals "tuple") (some none),
  Hq.cvB K (He.ga K "Prices") "MAX_PRICE" 1000000,
  Hq.cvB K (He.ga K "Prices") "MAX_TICKS" 24,
  (epL K "InvalidNumber").all id,
  (eiL K "InvalidPrices" "InvalidPrices.__init__" hR.prog.main.file).all id,
  xmB K "InvalidNumber" "InvalidNumber" true,
  xmB K "InvalidPrices" "InvalidNumber" false,
  xmB K "InvalidPrices" "InvalidPrices" true,
  (poL K).all id,
  nqB K,
  Hq.coB K (He.ga K "check_number") "check_number",
  Hq.coB K (He.ga K "first_invalid") "first_invalid",
  Hq.coB K (He.ga K "sum_of_first") "sum_of_first",
  Hq.coB K (He.ga K "same_rounds") "same_rounds",
  Hq.coB K (He.ma K (He.ga K "Prices") "__init__") "Prices.__init__",
  Hq.coB K (He.ma K (He.ga K "Prices") "__len__") "Prices.__len__",
  Hq.coB K (He.ma K (He.ga K "Prices") "__getitem__") "Prices.__getitem__",
  Hq.coB K (He.ma K (He.ga K "Prices") "__call__") "Prices.__call__",
  Hq.coB K (He.ma K (He.ga K "Prices") "__eq__") "Prices.__eq__",
  Hq.coB K (He.ma K (He.ga K "Prices") "__mul__") "Prices.__mul__",
  Hq.coB K (He.ga K "_law_start") "_law_start",
  Hq.coB K (He.ga K "_law_drawn") "_law_drawn",
  Hq.coB K (He.ga K "_law_same") "_law_same",
  Hq.coB K (He.ga K "_law_outcome") "_law_outcome"]
def hb3 (K : PySem.W.Frag) : List Bool := [
  Hq.coB K (He.ga K "_law_prices") "_law_prices",
  Hq.coB K (He.ga K "_law_long") "_law_long",
  Hq.coB K (He.ga K "_law_refused") "_law_refused",
  Hq.coB K (He.ga K "law") "law",
  Hq.coB K (Hq.gtA K (He.ma K (He.ga K "Prices") "cents")) "Prices.cents"]
def hf0 : List ((PySem.W.Frag → Addr) × Hq.Mv) := [
  (fun K => (He.ga K "check_number"), Hq.mv "check_number" "check_number" s_check_number),
  (fun K => (He.ga K "first_invalid"), Hq.mv "first_invalid" "first_invalid" s_first_invalid),
  (fun K => (He.ga K "sum_of_first"), Hq.mv "sum_of_first" "sum_of_first" s_sum_of_first),
  (fun K => (He.ga K "same_rounds"), Hq.mv "same_rounds" "same_rounds" s_same_rounds),
  (fun K => (He.ma K (He.ga K "Prices") "__init__"), Hq.mv "__init__" "Prices.__init__" s_Prices_init),
  (fun K => (He.ma K (He.ga K "Prices") "__len__"), Hq.mv "__len__" "Prices.__len__" s_Prices_len),
  (fun K => (He.ma K (He.ga K "Prices") "__getitem__"), Hq.mv "__getitem__" "Prices.__getitem__" s_Prices_getitem),
  (fun K => (He.ma K (He.ga K "Prices") "__call__"), Hq.mv "__call__" "Prices.__call__" s_Prices_call),
  (fun K => (He.ma K (He.ga K "Prices") "__eq__"), Hq.mv "__eq__" "Prices.__eq__" s_Prices_eq),
  (fun K => (He.ma K (He.ga K "Prices") "__mul__"), Hq.mv "__mul__" "Prices.__mul__" s_Prices_mul),
  (fun K => (He.ga K "_law_start"), Hq.mv "_law_start" "_law_start" s__law_start),
  (fun K => (He.ga K "_law_drawn"), Hq.mv "_law_drawn" "_law_drawn" s__law_drawn),
  (fun K => (He.ga K "_law_same"), Hq.mv "_law_same" "_law_same" s__law_same),
  (fun K => (He.ga K "_law_outcome"), Hq.mv "_law_outcome" "_law_outcome" s__law_outcome),
  (fun K => (He.ga K "_law_prices"), Hq.mv "_law_prices" "_law_prices" s__law_prices),
  (fun K => (He.ga K "_law_long"), Hq.mv "_law_long" "_law_long" s__law_long),
  (fun K => (He.ga K "_law_refused"), Hq.mv "_law_refused" "_law_refused" s__law_refused),
  (fun K => (He.ga K "law"), Hq.mv "law" "law" s_law),
  (fun K => (Hq.gtA K (He.ma K (He.ga K "Prices") "cents")), Hq.mv "cents" "Prices.cents" s_Prices_cents)]
def hS0 : Hq2.Spc := ⟨fun K => hb0 K ++ (hb1 K), [], [], fun K => []⟩
def hS1 : Hq2.Spc := ⟨fun K => hb2 K ++ (hb3 K), hf0, [(fun K => He.ma K (He.ga K "InvalidPrices") "__init__", Hq2.mvX "__init__" "InvalidPrices.__init__" s_IX_InvalidPrices)], fun K => [He.cT K ("law", none), He.cT K ("_law_refused", none)]⟩
abbrev hS : Hq2.Spc := (Hq3.app hS0 hS1)
def hn0 : List PySem.Str := ["WarmthError", "InvalidNumber", "InvalidPrices", "check_number", "first_invalid", "sum_of_first", "same_rounds", "MOST_TICKS", "Prices", "_law_start", "_law_drawn", "_law_same", "_law_outcome", "_law_prices", "_law_long", "_law_refused"]
def hn : List PySem.Str := hn0
abbrev hV : Program := PySem.W.view hR.prog [0, 21]
abbrev hk : PySem.W.Hook := Hq2.hook 5 hS
def hob (s : PySem.W.SharedT) : Hq2.Av × Bool := Hq2.obsG 5 hS (HandSHeadRun.getT s)
theorem hob_eq (s : PySem.W.SharedT) : hob s = hk.obs s.abs := Hq2.obsG_eq (HandSHeadRun.getT_eq s)
end W6

namespace W6
open PySem PySem.Spec PyProof.Rows L2 Ru StX
set_option maxHeartbeats 0 in
theorem hrunA (w : World) : (Hq3.whole hR 40000 w).map (fun x => HandSHeadRun.looksF hR.prog x.1.heap x.2.abs) = some true := by kernel_rfl
end W6

namespace W6
open PySem PySem.Spec PyProof.Rows L2 Ru StX
set_option maxHeartbeats 0 in
theorem hrunB (w : World) : (Hq3.whole hR 40000 w).map (fun x => HandSHeadRun.seenQ hV hn (importedModules hR.prog.main.body) (fun s => PySem.W.xlAt hV [] s && PySem.W.recOk hR.toRowW.records s) x.2.abs) = some (PySem.W.openGood hV hn) := by kernel_rfl
end W6

namespace W6
open PySem PySem.Spec PyProof.Rows L2 Ru StX
set_option maxHeartbeats 0 in
theorem hrun0 (w : World) : (Hq3.whole hR 40000 w).map (fun x => Hq2.obsG 5 hS0 (HandSHeadRun.getT x.2)) = some (Hq2.wanted hS0, true) := by kernel_rfl
end W6

namespace W6
open PySem PySem.Spec PyProof.Rows L2 Ru StX
set_option maxHeartbeats 0 in
theorem hrun1 (w : World) : (Hq3.whole hR 40000 w).map (fun x => Hq2.obsG 5 hS1 (HandSHeadRun.getT x.2)) = some (Hq2.wanted hS1, true) := by kernel_rfl
end W6

namespace W6
open PySem PySem.Spec PyProof.Rows L2 Ru StX
theorem hrun (w : World) : HandSHeadRun.RunEqI hR hV hk hob 40000 hn w := Hq3.run_of (fun _ => rfl) (hrunA w) (hrunB w) (Hq3.run_app (hrun0 w) (hrun1 w))
end W6

/-! what stands in the heap; the promises of the law's helpers -/
namespace W6
open PySem PySem.Spec PyProof.Rows L2
/-- all but two objects as they were -/
def Keep (x y : Addr) (H H' : Hp) : Prop := ∀ b o, b ≠ x → b ≠ y → H b = some o → H' b = some o
theorem Keep.refl (x y : Addr) (H : Hp) : Keep x y H H := fun _ _ _ _ h => h
theorem Keep.trans {x y : Addr} {H H1 H2 : Hp} (a : Keep x y H H1) (b : Keep x y H1 H2) : Keep x y H H2 := fun c o h1 h2 h => b c o h1 h2 (a c o h1 h2 h)
theorem Keep.of {x y : Addr} {H H1 : Hp} (a : Same H H1) : Keep x y H H1 := fun c o _ _ h => a c o h
/-- the draws: the mixed number, the cells, the index -/
def LH (H : Hp) (x y : Addr) : Prop := ∃ (m i : Int) (cs : List Int), H x = some (.lst [.int m, .ref y, .int i]) ∧ H y = some (.lst (cs.map V.int)) ∧ 0 ≤ m ∧ m < 2147483647 ∧ 0 ≤ i ∧ cs.length ≤ 63
theorem LH.ne {H : Hp} {x y : Addr} (h : LH H x y) : x ≠ y := by
  obtain ⟨m, i, cs, h1, h2, _⟩ := h
  refine ne_of h1 h2 fun e => ?_
  injection e with e
  cases cs with
  | nil => cases e
  | cons a r =>
    cases r with
    | nil => cases e
    | cons b r => simp at e
theorem LH.same {H H' : Hp} {x y : Addr} (h : LH H x y) (s : Same H H') : LH H' x y := by
  obtain ⟨m, i, cs, h1, h2, r⟩ := h
  exact ⟨m, i, cs, s _ _ h1, s _ _ h2, r⟩
/-- a free place is none of the two -/
theorem LH.off {H : Hp} {x y p : Addr} (h : LH H x y) (hp : H p = none) : p ≠ x ∧ p ≠ y := by
  obtain ⟨m, i, cs, h1, h2, r⟩ := h
  exact ⟨(ne_of_none h1 hp).symm, (ne_of_none h2 hp).symm⟩
theorem Keep.free {x y p : Addr} {H H' : Hp} (k : Keep x y H H') (h' : LH H' x y) (hp : H' p = none) : H p = none := by
  have o := h'.off hp
  cases e : H p with
  | none => rfl
  | some u => rw [k p u o.1 o.2 e] at hp; cases hp
/-- a new object -/
theorem same_upd {H : Hp} {p : Addr} {o : HO} (h : H p = none) : Same H (upd H p o) := fun b u e => by rw [upd_ne (ne_of_none e h)]; exact e
def spNext : Sp := fun vs H Q _ => ∃ (x y : Addr) (lim : Int), vs = [.ref x, .int lim] ∧ LH H x y ∧ 0 < lim ∧ lim < 18446744073709551616 ∧ ∀ r H', 0 ≤ r → r < lim → LH H' x y → Keep x y H H' → Q (.int r) H'
def spMix (K : PySem.W.Frag) : Sp := fun vs H Q _ => ∃ (c : Addr) (ns : List Int) (z : Int), vs = [.ref c, .int z] ∧ SqL K H c (ns.map V.int) ∧ 0 ≤ z ∧ z < 2147483647 ∧ ns.length ≤ 63 ∧ ∀ x y H', LH H' x y → Same H H' → H x = none → H y = none → Q (.ref x) H'
/-- some changes of a weather -/
def CH (cs : List Int) : Prop := 1 ≤ cs.length ∧ cs.length ≤ 24 ∧ ∀ c ∈ cs, -100 ≤ c ∧ c ≤ 100
def spChanges : Sp := fun vs H Q _ => ∃ (x y : Addr) (most : Int), vs = [.ref x, .int most] ∧ LH H x y ∧ 1 ≤ most ∧ most ≤ 24 ∧ ∀ p cs H', CH cs → (cs.length : Int) ≤ most → H' p = some (.tup (cs.map V.int)) → H p = none → LH H' x y → Keep x y H H' → Q (.ref p) H'
end W6
namespace W6
open PySem PySem.Spec PyProof.Rows L2
def spSetting : Sp := fun vs H Q _ => ∃ (x y : Addr), vs = [.ref x] ∧ LH H x y ∧ ∀ p (g lo hi st : Int) (on : Bool) H', 1 ≤ g → g ≤ 200 → lo ≤ hi → -100000000000 ≤ lo → hi ≤ 200000000000 → -1000000000000 ≤ st → st ≤ 1000000000000 → hi - lo ≤ 100000000000 → lo - 200000000000 ≤ st → st ≤ lo + 300000000000 →
  H' p = some (.tup [.int g, .int lo, .int hi, .int st, .bl on]) → H p = none → LH H' x y → Keep x y H H' → Q (.ref p) H'
def spDivisor : Sp := fun vs H Q _ => ∃ (x y : Nat), vs = [.int x, .int y] ∧ Q (.int ((Nat.gcd x y : Nat) : Int)) H
end W6
namespace W6
theorem ifF {c : Bool} {A B : Prop} (h : c = false) (b : B) : if c = true then A else B := by rw [h]; exact b
theorem ifT {c : Bool} {A B : Prop} (h : c = true) (x : A) : if c = true then A else B := by rw [h]; exact x
theorem dF {p : Prop} [Decidable p] (h : ¬ p) : decide p = false := decide_eq_false h
theorem dT {p : Prop} [Decidable p] (h : p) : decide p = true := decide_eq_true h
theorem nF {p : Prop} [Decidable p] (h : p) : (!decide p) = false := by rw [decide_eq_true h]; rfl
theorem nT {p : Prop} [Decidable p] (h : ¬ p) : (!decide p) = true := by rw [decide_eq_false h]; rfl
end W6

/-! the objects of the program in the heap, and the promises of its defs -/
namespace W6
open PySem PySem.Spec PyProof.Rows L2
/-- all but one as it was -/
def Fr1 (x : Addr) (H H' : Hp) : Prop := ∀ b o, b ≠ x → H b = some o → H' b = some o
theorem Fr1.of {x : Addr} {H H' : Hp} (h : Same H H') : Fr1 x H H' := fun b o _ e => h b o e
theorem Fr1.trans {x : Addr} {H H1 H2 : Hp} (a : Fr1 x H H1) (b : Fr1 x H1 H2) : Fr1 x H H2 := fun c o h e => b c o h (a c o h e)
theorem Fr1.upd {x : Addr} {H : Hp} {o : HO} : Fr1 x H (L2.upd H x o) := fun b u h e => by rw [upd_ne h]; exact e
/-- behind an __init__ all that stood before the instance was made stands -/
theorem Fr1.made {x dx C : Addr} {H H' : Hp} (nx : H x = none) (nd : H dx = none) (h : Fr1 x (L2.upd (L2.upd H dx (.own x)) x (.ins C dx [])) H') : Same H H' := fun b o e =>
  h b o (ne_of_none e nx) (by rw [upd_ne (ne_of_none e nx), upd_ne (ne_of_none e nd)]; exact e)
theorem same_made {x dx C : Addr} {H : Hp} (nx : H x = none) (nd : H dx = none) : Same H (L2.upd (L2.upd H dx (.own x)) x (.ins C dx [])) := fun b o e => by
  rw [upd_ne (ne_of_none e nx), upd_ne (ne_of_none e nd)]; exact e
/-- without some objects -/
def del (H : Hp) (S : List Addr) : Hp := fun b => if b ∈ S then none else H b
theorem del_in {H : Hp} {S : List Addr} {b : Addr} (h : b ∉ S) : del H S b = H b := if_neg h
theorem del_same {H : Hp} {S : List Addr} : Same (del H S) H := fun b o e => by
  by_cases h : b ∈ S
  · unfold del at e; rw [if_pos h] at e; cases e
  · rw [del_in h] at e; exact e
theorem del_some {H : Hp} {S : List Addr} {b : Addr} {o : HO} (e : del H S b = some o) : b ∉ S ∧ H b = some o := by
  by_cases h : b ∈ S
  · unfold del at e; rw [if_pos h] at e; cases e
  · rw [del_in h] at e; exact ⟨h, e⟩
theorem Fr1.del {x : Addr} {H H' : Hp} {S : List Addr} (h : Fr1 x H H') : Fr1 x (del H S) (del H' S) := fun b o n e => by
  obtain ⟨q, e⟩ := del_some e
  rw [del_in q]; exact h b o n e
theorem Same.del {H H' : Hp} {S : List Addr} (h : Same H H') : Same (del H S) (del H' S) := fun b o e => by
  obtain ⟨q, e⟩ := del_some e
  rw [del_in q]; exact h b o e
section
variable (a : Ad)
def WAt (H : Hp) (z : Addr) (cs : List Int) : Prop := ∃ dx t, H z = some (.ins a.c_Weather dx [("_changes", .ref t)]) ∧ H t = some (.tup (cs.map V.int))
def HAt (H : Hp) (z : Addr) (g lo hi : Int) : Prop := ∃ dx, H z = some (.ins a.c_Heater dx [("_gain", .int g), ("_low", .int lo), ("_high", .int hi)])
def sumsV (cs : List Int) (gg : Int) : List V := (List.range cs.length).map fun r => V.int (Th.pre cs gg r)
def DAt (H : Hp) (z : Addr) (cs : List Int) (gg : Int) : Prop := (CH cs ∧ 0 ≤ gg ∧ gg ≤ 200) ∧ ∃ dx l, H z = some (.ins a.c_Drift dx [("round_ticks", .int cs.length), ("round_sum", .int (Th.rsum cs gg)), ("_sums", .ref l)]) ∧ H l = some (.lst (sumsV cs gg))
def DDs (H : Hp) (t : Addr) (cs : List Int) (g : Int) : Prop := ∃ d0 d1, H t = some (.tup [.ref d0, .ref d1]) ∧ DAt a H d0 cs 0 ∧ DAt a H d1 cs g
def SAt (H : Hp) (z : Addr) (cs : List Int) (g : Int) (on : Bool) (b : Nat) (base : Int) : Prop := ∃ dx td d, H z = some (.ins a.c_Stretch dx [("on", .bl on), ("begin", .int b), ("_drifts", .ref td), ("_drift", .ref d), ("_base", .int base)]) ∧ DDs a H td cs g ∧ DAt a H d cs (Th.gon g on)
def bkV : Option Nat → V
  | none => .non
  | some k => .int k
def TAt (H : Hp) (z : Addr) (bs : List Nat) (back : Option Nat) : Prop := ∃ dx lb, H z = some (.ins a.c_Timeline dx [("back", bkV back), ("last", .int ((bs.length : Int) - 1)), ("_begins", .ref lb)]) ∧ H lb = some (.lst (bs.map fun (b : Nat) => V.int (b : Int)))
/-- the heating of ticks that count 1 each -/
def YAt (H : Hp) (z : Addr) (p : Th.Par) (bs : List Nat) (back : Option Nat) : Prop := ∃ dx am tl ls, H z = some (.ins a.c_HeatingSum dx [("_on", .bl (Th.onn p 0)), ("_amounts", .ref am), ("_timeline", .ref tl), ("_sums", .ref ls)]) ∧ H am = some (.tup [.int 1]) ∧ TAt a H tl bs back ∧ H ls = some (.lst (bs.map fun b => V.int (Th.Hc p b)))
def CAt (H : Hp) (z : Addr) (p : Th.Par) (bs : List Nat) (back : Option Nat) : Prop := ∃ (dx ls tl hs : Addr) (qs : List Addr), H z = some (.ins a.c_Course dx [("_low", .int p.lo), ("_high", .int p.hi), ("_stretches", .ref ls), ("_timeline", .ref tl), ("_heating", .ref hs)]) ∧
  H ls = some (.lst (qs.map V.ref)) ∧ qs.length = bs.length ∧ (∀ (i : Nat) (q : Addr) (b : Nat), qs[i]? = some q → bs[i]? = some b → SAt a H q p.ch p.g (Th.onn p b) b (Th.baB p b)) ∧ TAt a H tl bs back ∧ YAt a H hs p bs back
end
section
variable {a : Ad} {H H' : Hp} {z : Addr}
theorem WAt.same {cs : List Int} (h : WAt a H z cs) (s : Same H H') : WAt a H' z cs := let ⟨dx, t, h1, h2⟩ := h; ⟨dx, t, s _ _ h1, s _ _ h2⟩
theorem HAt.same {g lo hi : Int} (h : HAt a H z g lo hi) (s : Same H H') : HAt a H' z g lo hi := let ⟨dx, h1⟩ := h; ⟨dx, s _ _ h1⟩
theorem DAt.same {cs : List Int} {g : Int} (h : DAt a H z cs g) (s : Same H H') : DAt a H' z cs g := let ⟨b, dx, t, h1, h2⟩ := h; ⟨b, dx, t, s _ _ h1, s _ _ h2⟩
theorem DDs.same {cs : List Int} {g : Int} (h : DDs a H z cs g) (s : Same H H') : DDs a H' z cs g := let ⟨d0, d1, h1, h2, h3⟩ := h; ⟨d0, d1, s _ _ h1, h2.same s, h3.same s⟩
theorem SAt.same {cs : List Int} {g base : Int} {on : Bool} {b : Nat} (h : SAt a H z cs g on b base) (s : Same H H') : SAt a H' z cs g on b base := let ⟨dx, td, d, h1, h2, h3⟩ := h; ⟨dx, td, d, s _ _ h1, h2.same s, h3.same s⟩
theorem TAt.same {bs : List Nat} {back : Option Nat} (h : TAt a H z bs back) (s : Same H H') : TAt a H' z bs back := let ⟨dx, lb, h1, h2⟩ := h; ⟨dx, lb, s _ _ h1, s _ _ h2⟩
theorem YAt.same {p : Th.Par} {bs : List Nat} {back : Option Nat} (h : YAt a H z p bs back) (s : Same H H') : YAt a H' z p bs back := let ⟨dx, am, tl, ls, h1, h2, h3, h4⟩ := h; ⟨dx, am, tl, ls, s _ _ h1, s _ _ h2, h3.same s, s _ _ h4⟩
theorem CAt.same {p : Th.Par} {bs : List Nat} {back : Option Nat} (h : CAt a H z p bs back) (s : Same H H') : CAt a H' z p bs back :=
  let ⟨dx, ls, tl, hs, qs, h1, h2, h3, h4, h5, h6⟩ := h; ⟨dx, ls, tl, hs, qs, s _ _ h1, s _ _ h2, h3, fun i q b e1 e2 => (h4 i q b e1 e2).same s, h5.same s, h6.same s⟩
end
/-! ### promises -/
def spGain : Sp := fun vs H Q _ => ∃ g : Int, vs = [.int g] ∧ 1 ≤ g ∧ g ≤ 200 ∧ Q .non H
def spNum : Sp := fun vs H Q _ => ∃ n l u : Int, vs = [.int n, .int l, .int u] ∧ l ≤ n ∧ n ≤ u ∧ Q .non H
section
variable (a : Ad)
/-- the first value that is out of range or too many; none without one -/
def spFi : Sp := fun vs H Q _ => ∃ (t : Addr) (cs : List Int) (lo hi most : Int), vs = [.ref t, .int lo, .int hi, .int most] ∧ H t = some (.tup (cs.map V.int)) ∧
  (∀ H', Same H H' → cs ≠ [] → (∀ (i : Nat) (c : Int), cs[i]? = some c → (i : Int) < most ∧ lo ≤ c ∧ c ≤ hi) → Q .non H') ∧ (∀ H' (i : Nat) (c : Int), Same H H' → cs[i]? = some c → ¬ ((i : Int) < most ∧ lo ≤ c ∧ c ≤ hi) → (∀ (j : Nat) (d : Int), j < i → cs[j]? = some d → (j : Int) < most ∧ lo ≤ d ∧ d ≤ hi) → Q (.int i) H') ∧ (∀ H', Same H H' → cs = [] → Q (.int 0) H')
def spCb : Sp := fun vs H Q _ => ∃ lo hi : Int, vs = [.int lo, .int hi] ∧ Q (.bl (decide (-1000000000000 ≤ lo ∧ lo ≤ hi ∧ hi ≤ 1000000000000))) H
/-- Weather's __init__ with the tuple of its changes -/
def spWi : Sp := fun vs H Q _ => ∃ (x dx p : Addr) (cs : List Int), vs = [.ref x, .ref p] ∧ H x = some (.ins a.c_Weather dx []) ∧ H p = some (.tup (cs.map V.int)) ∧ CH cs ∧ ∀ H', Fr1 x H H' → WAt a H' x cs → Q .non H'
def spWs : Sp := fun vs H Q E => ∃ ws rest, vs = ws ++ rest ∧ ws.length = ["self"].length ∧ rest.length ≤ sizeLine ∧ ∀ p, H p = Option.none → spWi a (ws ++ [V.ref p]) (upd H p (.tup rest)) Q E
def spWeather : Sp := fun vs H Q _ => ∃ (t : Addr) (cs : List Int), vs = [.ref t] ∧ H t = some (.tup (cs.map V.int)) ∧ CH cs ∧ cs.length ≤ 6 ∧ ∀ z H', Same H H' → WAt a H' z cs → Q (.ref z) H'
def spHi : Sp := fun vs H Q _ => ∃ (x dx : Addr) (g lo hi : Int), vs = [.ref x, .int g, .int lo, .int hi] ∧ H x = some (.ins a.c_Heater dx []) ∧ 1 ≤ g ∧ g ≤ 200 ∧ lo ≤ hi ∧ -1000000000000 ≤ lo ∧ hi ≤ 1000000000000 ∧ ∀ H', Fr1 x H H' → HAt a H' x g lo hi → Q .non H'
def spDi : Sp := fun vs H Q _ => ∃ (x dx t : Addr) (cs : List Int) (gg : Int), vs = [.ref x, .ref t, .int gg] ∧ H x = some (.ins a.c_Drift dx []) ∧ H t = some (.tup (cs.map V.int)) ∧ CH cs ∧ 0 ≤ gg ∧ gg ≤ 200 ∧ ∀ H', Fr1 x H H' → DAt a H' x cs gg → Q .non H'
def spSum : Sp := fun vs H Q _ => ∃ (x : Addr) (t : Nat) (cs : List Int) (gg : Int), vs = [.ref x, .int t] ∧ DAt a H x cs gg ∧ ∀ H', Same H H' → Q (.int (Th.sumTo cs gg t)) H'
def spBoth : Sp := fun vs H Q _ => ∃ (t : Addr) (cs : List Int) (g : Int), vs = [.ref t, .int g] ∧ H t = some (.tup (cs.map V.int)) ∧ CH cs ∧ 1 ≤ g ∧ g ≤ 200 ∧ ∀ z H', Same H H' → DDs a H' z cs g → Q (.ref z) H'
def spSi : Sp := fun vs H Q _ => ∃ (S : List Addr) (x dx td : Addr) (cs : List Int) (g d : Int) (on : Bool) (b : Nat), vs = [.ref x, .ref td, .bl on, .int b, .int d] ∧ H x = some (.ins a.c_Stretch dx []) ∧ x ∉ S ∧ DDs a (del H S) td cs g ∧ ∀ H', Fr1 x H H' → SAt a (del H' S) x cs g on b (d - Th.sumTo cs (Th.gon g on) b) → Q .non H'
def spDeg : Sp := fun vs H Q _ => ∃ (x : Addr) (t b : Nat) (cs : List Int) (g base : Int) (on : Bool), vs = [.ref x, .int t] ∧ SAt a H x cs g on b base ∧ ∀ H', Same H H' → Q (.int (Th.Dg cs (Th.gon g on) base t)) H'
def spState : Sp := fun vs H Q _ => ∃ (x : Addr) (b : Nat) (cs : List Int) (g base : Int) (on : Bool), vs = [.ref x] ∧ SAt a H x cs g on b base ∧ ∀ z H', Same H H' → H z = none → H' z = some (.tup [.int (((b % cs.length : Nat)) : Int), .int (Th.Dg cs (Th.gon g on) base b), .bl on]) → Q (.ref z) H'
def spSwitched : Sp := fun vs H Q _ => ∃ (S : List Addr) (x : Addr) (e b : Nat) (cs : List Int) (g base : Int) (on : Bool), vs = [.ref x, .int e] ∧ (∀ s ∈ S, ∃ o, H s = some o) ∧ SAt a (del H S) x cs g on b base ∧ ∀ z H', Same H H' → H z = none → SAt a (del H' S) z cs g (!on) e (Th.Dg cs (Th.gon g on) base e - Th.sumTo cs (Th.gon g (!on)) e) → Q (.ref z) H'
def spLevel : Sp := fun vs H Q _ => ∃ (x : Addr) (b : Nat) (cs : List Int) (g base : Int) (on : Bool), vs = [.ref x] ∧ SAt a H x cs g on b base ∧ Q (if Th.rsum cs (Th.gon g on) = 0 then .int cs.length else .non) H
def optV : Option Nat → V
  | none => .non
  | some k => .int k
def spFb : Sp := fun vs H Q _ => ∃ (x : Addr) (b : Nat) (cs : List Int) (g base bound sgn : Int) (on : Bool), vs = [.ref x, .int bound, .int sgn] ∧ SAt a H x cs g on b base ∧ b ≤ 1000000000000000000 ∧ (sgn = 1 ∨ sgn = -1) ∧
  ∀ r H', Same H H' → Th.FB cs (Th.gon g on) base b sgn bound r → Q (optV r) H'
def spHst : Sp := fun vs H Q _ => ∃ (d lo hi : Int) (b : Bool), vs = [.int d, .int lo, .int hi, .bl b] ∧ Q (.bl (Th.hst d lo hi b)) H
def spEnd : Sp := fun vs H Q _ => ∃ (c x dx : Addr) (fs : List (Str × V)) (p : Th.Par) (b : Nat), vs = [.ref c, .ref x] ∧ H c = some (.ins a.c_Course dx fs) ∧ fs.lookup ("_low" : Str) = some (.int p.lo) ∧ fs.lookup ("_high" : Str) = some (.int p.hi) ∧ fs.lookup ("first_beyond" : Str) = none ∧ SAt a H x p.ch p.g (Th.onn p b) b (Th.baB p b) ∧ b ≤ 1000000000000000000 ∧
  ∀ r H', Same H H' → Th.FB p.ch (Th.ggB p b) (Th.baB p b) b (Th.sgB p b) (Th.bdB p b) r → Q (optV r) H'
end
end W6

namespace W6
open PySem PySem.Spec PyProof.Rows L2
theorem ix_of {n : Nat} {z : Int} (h0 : 0 ≤ z) (h1 : z < n) : ixN n z = some z.toNat := by
  unfold ixN
  rw [if_pos h0, if_pos h1]
theorem at_int {xs : List V} {z : Int} {v : V} (h0 : 0 ≤ z) (h : xs[z.toNat]? = some v) : atI xs z = some v := by
  unfold atI
  have hl := (List.getElem?_eq_some_iff.mp h).1
  rw [ix_of h0 (by omega)]
  exact h
theorem map_at {cs : List Int} {j : Nat} (h : j < cs.length) : (cs.map V.int)[j]? = some (.int (cs.getD j 0)) := by
  simp [h]
theorem pick {cs : List Int} {i : Int} (i0 : 0 ≤ i) : ∃ c : Int, atI (cs.map V.int ++ [V.int 0]) (i % (if (((cs.map V.int).length : Nat) : Int) > 1 then (((cs.map V.int).length : Nat) : Int) else 1)) = some (.int c) ∧ (1000000000000000000 ≤ c → 0 < cs.length) := by
  rw [List.length_map]
  cases cs with
  | nil =>
    refine ⟨0, ?_, fun h => by omega⟩
    simp only [List.length_nil, Int.natCast_zero]
    rw [if_neg (by omega), show i % 1 = 0 by omega]
    rfl
  | cons e r =>
    generalize hn : (if (((e :: r).length : Nat) : Int) > 1 then (((e :: r).length : Nat) : Int) else 1) = n
    have hn2 : n = ((e :: r).length : Nat) := by
      subst hn
      simp only [List.length_cons]
      split <;> omega
    have npos : 0 < n := by rw [hn2]; simp only [List.length_cons]; omega
    have h0 : 0 ≤ i % n := Int.emod_nonneg _ (by omega)
    have h1 : i % n < n := Int.emod_lt_of_pos _ npos
    refine ⟨(e :: r).getD (i % n).toNat 0, at_int h0 ?_, fun _ => by simp⟩
    have hl : (i % n).toNat < (e :: r).length := by omega
    rw [List.getElem?_append_left (by rw [List.length_map]; exact hl)]
    exact map_at hl
section
variable {P : Program} {w : World} {K : PySem.W.Frag} {mg : Str → Option Value} {base : Heap} {a : Ad}
end
end W6

namespace W6
open PySem PySem.Spec PyProof.Rows L2
section
variable {P : Program} {w : World} {K : PySem.W.Frag} {mg : Str → Option Value} {base : Heap} {a : Ad}
theorem three {r : Int} (h0 : 0 ≤ r) (h1 : r < 3) (A B C : V) : ∃ v, atI [A, B, C] r = some v ∧ (v = A ∨ v = B ∨ v = C) := by
  rcases (show r = 0 ∨ r = 1 ∨ r = 2 by omega) with rfl | rfl | rfl
  · exact ⟨A, rfl, .inl rfl⟩
  · exact ⟨B, rfl, .inr (.inl rfl)⟩
  · exact ⟨C, rfl, .inr (.inr rfl)⟩
end
end W6

namespace W6
open PySem PySem.Spec PyProof.Rows L2
section
variable {P : Program} {w : World} {K : PySem.W.Frag} {mg : Str → Option Value} {base : Heap} {a : Ad}
theorem two {r : Int} (h0 : 0 ≤ r) (h1 : r < 2) (A B : V) : ∃ v, atI [A, B] r = some v ∧ (v = A ∨ v = B) := by
  rcases (show r = 0 ∨ r = 1 by omega) with rfl | rfl
  · exact ⟨A, rfl, .inl rfl⟩
  · exact ⟨B, rfl, .inr rfl⟩
theorem five {r : Int} (h0 : 0 ≤ r) (h1 : r < 5) (A B C D F : V) : ∃ v, atI [A, B, C, D, F] r = some v ∧ (v = A ∨ v = B ∨ v = C ∨ v = D ∨ v = F) := by
  rcases (show r = 0 ∨ r = 1 ∨ r = 2 ∨ r = 3 ∨ r = 4 by omega) with rfl | rfl | rfl | rfl | rfl
  · exact ⟨A, rfl, .inl rfl⟩
  · exact ⟨B, rfl, .inr (.inl rfl)⟩
  · exact ⟨C, rfl, .inr (.inr (.inl rfl))⟩
  · exact ⟨D, rfl, .inr (.inr (.inr (.inl rfl)))⟩
  · exact ⟨F, rfl, .inr (.inr (.inr (.inr rfl)))⟩
end
end W6

namespace W6
open PySem PySem.Spec PyProof.Rows L2 Ru StX
section
variable {P : Program} {w : World} {K : PySem.W.Frag} {mg : Str → Option Value} {base : Heap} {a : Ad}
theorem ok_check_number (T : Txt K mg a) : FnOk P w K mg base CX0 1 a.f_check_number a.d_check_number ["number", "least", "greatest"] spNum := by
  refine T.F_check_number.ok sc_check_number (fun vs H Q E h => ?_) (fun cdv A outer s H vs Q E hr h => ?_)
  · obtain ⟨n, l, u, rfl, _⟩ := h
    rfl
  · obtain ⟨n, l, u, rfl, g1, g2, k⟩ := h
    refine ⟨_, (pss_one (ps_if (pt_not (pt_chain op_le op_le (pv 1) (pv 0) (pv 2))) (pss_one (ps_never)) pss_nil)), ?_⟩
    refine ⟨_, rfl, _, rfl, _, _, rfl, rfl, _, rfl, ?_⟩
    rw [if_pos (decide_eq_true g1)]
    refine ⟨_, rfl, _, _, rfl, rfl, _, rfl, ?_⟩
    show (if (!decide (n ≤ u)) = true then _ else _)
    rw [decide_eq_true g2]
    exact iteF k
theorem ok_first_invalid (T : Txt K mg a) : FnOk P w K mg base CX0 1 a.f_first_invalid a.d_first_invalid ["values", "least", "greatest", "most"] spFi := by
  refine T.F_first_invalid.ok sc_first_invalid (fun vs H Q E h => ?_) (fun cdv A outer s H vs Q E hr h => ?_)
  · obtain ⟨t, cs, lo, hi, most, rfl, _⟩ := h
    rfl
  · obtain ⟨t, cs, lo, hi, most, rfl, ht, k1, k2, k3⟩ := h
    refine ⟨_, (pss_cons (ps_for PassesOwn.never rfl (pi_enumT (by rfl) T.z_enumerate (pa_cons (pv 0) pa_nil)) (pg_tup rfl (pgs_cons (pg_name (i := 4) sc_first_invalid.nd rfl (Or.inl rfl)) (pgs_cons (pg_name (i := 5) sc_first_invalid.nd rfl (Or.inl rfl)) pgs_nil)))
        (pss_one (ps_if (PW.pt (pw_or (pt_cmpR op_ge (pv 4) (pv 3) (nomark _)) (pw_or1 (pt_not (pt_chain op_le op_le (pv 1) (pv 5) (pv 2)))))) (pss_one (ps_ret (pv 4))) pss_nil)))
      (pss_one (ps_ret (pe_ifExp (pt_cmpR op_eq (pe_callB call_len_seq (by rfl) T.z_len PySem.boot_len (pa_cons (pv 0) pa_nil)) pe_int (nomark _)) pe_int pe_non)))), ?_⟩
    refine ⟨_, rfl, t, cs.map V.int, rfl, SqT.of ht, for_enumT (fun i σ H' => (∃ u v : Option V, σ = [some (.ref t), some (.int lo), some (.int hi), some (.int most), u, v] ∧ Same H H') ∧ ∀ (j : Nat) (d : Int), j < i → cs[j]? = some d → (j : Int) < most ∧ lo ≤ d ∧ d ≤ hi) ⟨⟨none, none, rfl, Same.refl _⟩, fun j d hj => absurd hj (Nat.not_lt_zero _)⟩ (fun i σ H' ⟨⟨_, _, _, s⟩, _⟩ => SqT.of (s _ _ ht)) ?_ ?_⟩
    · rintro i v σ H' tt hi' ⟨⟨u1, u2, rfl, sm⟩, ok⟩ htt
      obtain ⟨c, hc, rfl⟩ : ∃ c, cs[i]? = some c ∧ v = V.int c := by
        rw [List.getElem?_map] at hi'
        cases e : cs[i]? with
        | none => rw [e] at hi'; cases hi'
        | some c => rw [e] at hi'; exact ⟨c, rfl, (Option.some.inj hi').symm⟩
      have sm2 : Same H (upd H' tt (.tup [.int (i : Nat), .int c])) := sm.trans (same_upd htt)
      refine ⟨tt, _, rfl, SqT.of upd_same, rfl, _, _, rfl, _, _, rfl, rfl, ?_⟩
      refine ⟨_, rfl, _, rfl, _, _, rfl, rfl, _, rfl, ?_⟩
      by_cases c1 : most ≤ (i : Int)
      · refine ifT (dT c1) ⟨_, rfl, ?_⟩
        exact k2 _ i c sm2 hc (fun q => by omega) ok
      · refine ifF (dF c1) ⟨_, rfl, _, rfl, _, _, rfl, rfl, _, rfl, ?_⟩
        by_cases c2 : lo ≤ c
        · refine ifT (dT c2) ⟨_, rfl, _, _, rfl, rfl, _, rfl, ?_⟩
          by_cases c3 : c ≤ hi
          · refine ifF (nF c3) ?_
            refine ⟨⟨_, _, rfl, sm2⟩, fun j d hj e => ?_⟩
            by_cases q : j < i
            · exact ok j d q e
            · obtain rfl : j = i := by omega
              rw [hc] at e; cases e
              exact ⟨by omega, c2, c3⟩
          · refine ifT (nT c3) ⟨_, rfl, ?_⟩
            exact k2 _ i c sm2 hc (fun q => c3 q.2.2) ok
        · refine ifF (dF c2) ⟨_, rfl, ?_⟩
          refine ifT rfl ⟨_, rfl, ?_⟩
          exact k2 _ i c sm2 hc (fun q => c2 q.2.1) ok
    · rintro σ H' ⟨⟨u1, u2, rfl, sm⟩, ok⟩
      refine ⟨_, rfl, t, _, rfl, .inr (SqT.of (sm _ _ ht)), rfl, _, rfl, ?_⟩
      by_cases e0 : cs = []
      · subst e0
        exact ifT rfl (k3 _ sm rfl)
      · refine ifF (dF (by intro q; injection q with q; rw [List.length_map] at q; exact e0 (List.eq_nil_of_length_eq_zero (by omega)))) ?_
        refine k1 _ sm e0 fun i c hc => ok i c ?_ hc
        rw [List.length_map]
        exact (List.getElem?_eq_some_iff.mp hc).1
/-- what the making of a weather asks -/
theorem weather_made {H : Hp} {Q : VK} {E : XK} {cs : List Int} (c : CH cs) (k : ∀ z H', Same H H' → WAt a H' z cs → Q (.ref z) H') : ∀ x dx, H x = none → H dx = none → dx ≠ x → spWs a (V.ref x :: cs.map V.int) (upd (upd H dx (.own x)) x (.ins a.c_Weather dx [])) (fun v H2 => v = .non ∧ Q (.ref x) H2) E := fun x dx nx nd ne =>
  ⟨[.ref x], cs.map V.int, rfl, rfl, by rw [List.length_map]; exact Nat.le_of_lt (small1000 (by have := c.2.1; omega)), fun p hp => by
    have npx : x ≠ p := ne_of_none upd_same hp
    have s1 := same_upd (o := .tup (cs.map V.int)) hp
    exact ⟨x, dx, p, cs, rfl, s1 _ _ upd_same, upd_same, c, fun H' fr wt => ⟨rfl, k x H' (Fr1.made nx nd ((Fr1.of s1).trans fr)) wt⟩⟩⟩
end
end W6

namespace W6
open PySem PySem.Spec PyProof.Rows L2
/-- all but one object as they were -/
def Kp (x : Addr) (H H' : Hp) : Prop := ∀ b o, b ≠ x → H b = some o → H' b = some o
theorem Kp.of {x : Addr} {H H' : Hp} (s : Same H H') : Kp x H H' := fun b o _ e => s b o e
theorem Kp.refl (x : Addr) (H : Hp) : Kp x H H := fun _ _ _ e => e
theorem Kp.trans {x : Addr} {H H1 H2 : Hp} (a : Kp x H H1) (b : Kp x H1 H2) : Kp x H H2 := fun c o n e => b c o n (a c o n e)
theorem Kp.upd {x : Addr} {H : Hp} {o : HO} : Kp x H (L2.upd H x o) := fun b u n e => by rw [upd_ne n]; exact e
/-- the state of the draws: the script, how many cells are drawn, the mixed number, the rest of a great cell -/
def LS (K : PySem.W.Frag) (H : Hp) (x y : Addr) : Prop := ∃ (ns : List Int) (i m c : Int), H x = some (.lst [.ref y, .int i, .int m, .int c]) ∧ SqL K H y (ns.map V.int) ∧ 0 ≤ i ∧ 0 ≤ m ∧ m < 2147483647 ∧ 0 ≤ c ∧ ns.length ≤ 63
theorem ref_ints {y : Addr} {l : List V} {ns : List Int} (h : V.ref y :: l = ns.map V.int) : False := by
  cases ns with
  | nil => cases h
  | cons n r => simp at h
theorem sqOff {K : PySem.W.Frag} {H : Hp} {x y : Addr} {l : List V} {ns : List Int} {o : HO} (hx : H x = some (.lst (.ref y :: l))) (h : SqL K H y (ns.map V.int)) : SqL K (upd H x o) y (ns.map V.int) := by
  rcases h with (h | ⟨ob, h⟩) | h
  · exact .inl (.inl (by rw [upd_ne (fun e => by rw [e, hx] at h; injection h with h; injection h with h; exact ref_ints h)]; exact h))
  · exact .inl (.inr ⟨ob, by rw [upd_ne (fun e => by rw [e, hx] at h; injection h with h; cases h)]; exact h⟩)
  · exact .inr h
theorem LS.same {K : PySem.W.Frag} {H H' : Hp} {x y : Addr} (h : LS K H x y) (s : Same H H') : LS K H' x y := by
  obtain ⟨ns, i, m, c, h1, h2, r⟩ := h
  exact ⟨ns, i, m, c, s _ _ h1, s.seq h2, r⟩
theorem LS.off {K : PySem.W.Frag} {H : Hp} {x y p : Addr} (h : LS K H x y) (hp : H p = none) : p ≠ x := by
  obtain ⟨ns, i, m, c, h1, h2, r⟩ := h
  exact (ne_of_none h1 hp).symm
/-- what is no list is not the state -/
theorem LS.ne {K : PySem.W.Frag} {H : Hp} {x y b : Addr} {o : HO} (h : LS K H x y) (e : H b = some o) (n : ∀ xs, o ≠ .lst xs) : b ≠ x := by
  obtain ⟨ns, i, m, c, h1, h2, r⟩ := h
  exact ne_of e h1 (n _)
theorem Kp.get {K : PySem.W.Frag} {H H' : Hp} {x y b : Addr} {o : HO} (k : Kp x H H') (h : LS K H x y) (e : H b = some o) (n : ∀ xs, o ≠ .lst xs) : H' b = some o := k _ _ (h.ne e n) e
/-- an update at D leaves the script alone -/
def NY (K : PySem.W.Frag) (y D : Addr) : Prop := y ≠ D ∨ ∃ ns : List Int, ns.length ≤ 63 ∧ ∀ H, SqL K H y (ns.map V.int)
theorem LS.fresh {K : PySem.W.Frag} {H : Hp} {x y D : Addr} (h : LS K H x y) (hD : H D = none) : NY K y D := by
  obtain ⟨ns, i, m, c, h1, h2, _, _, _, _, nl⟩ := h
  rcases h2 with (h | ⟨ob, h⟩) | h
  · exact .inl (ne_of_none h hD)
  · exact .inl (ne_of_none h hD)
  · exact .inr ⟨ns, nl, fun _ => .inr h⟩
theorem LS.updD {K : PySem.W.Frag} {H : Hp} {x y D : Addr} {o : HO} (h : LS K H x y) (n1 : D ≠ x) (n2 : NY K y D) : LS K (upd H D o) x y := by
  obtain ⟨ns, i, m, c, h1, h2, i0, m0, m1, c0, nl⟩ := h
  have h1' : upd H D o x = some (.lst [.ref y, .int i, .int m, .int c]) := by rw [upd_ne (Ne.symm n1)]; exact h1
  rcases n2 with n2 | ⟨ms, ml, hm⟩
  · refine ⟨ns, i, m, c, h1', ?_, i0, m0, m1, c0, nl⟩
    rcases h2 with (h | ⟨ob, h⟩) | h
    · exact .inl (.inl (by rw [upd_ne n2]; exact h))
    · exact .inl (.inr ⟨ob, by rw [upd_ne n2]; exact h⟩)
    · exact .inr h
  · exact ⟨ms, i, m, c, h1', hm _, i0, m0, m1, c0, ml⟩
def spStart (K : PySem.W.Frag) : Sp := fun vs H Q _ => ∃ (y : Addr) (ns : List Int), vs = [.ref y] ∧ SqL K H y (ns.map V.int) ∧ ns.length ≤ 63 ∧ ∀ x H', LS K H' x y → Same H H' → H x = none → Q (.ref x) H'
def spDrawn (K : PySem.W.Frag) : Sp := fun vs H Q _ => ∃ (x y : Addr) (lim : Int), vs = [.ref x, .int lim] ∧ LS K H x y ∧ 0 < lim ∧ lim < 18446744073709551616 ∧ ∀ r H', 0 ≤ r → r < lim → LS K H' x y → Kp x H H' → Q (.int r) H'
section
variable {P : Program} {w : World} {K : PySem.W.Frag} {mg : Str → Option Value} {base : Heap} {a : Ad}
theorem ok__law_start (T : Txt K mg a) : FnOk P w K mg base CX0 1 a.f__law_start a.d__law_start ["_law_script"] (spStart K) := by
  refine T.F__law_start.ok sc__law_start (fun vs H Q E h => ?_) (fun cdv A outer s H vs Q E hr h => ?_)
  · obtain ⟨c, ns, rfl, _⟩ := h
    rfl
  · obtain ⟨c, ns, rfl, hS, hl, k⟩ := h
    refine ⟨_, (pss_cons (ps_set (i := 1) sc__law_start.nd rfl (Or.inl rfl) pe_int)
      (pss_cons (ps_for PassesOwn.never rfl (pi_list (pv 0)) (pg_name (i := 2) sc__law_start.nd rfl (Or.inl rfl))
        (pss_one (ps_set (i := 1) sc__law_start.nd rfl (Or.inl rfl) (pe_op op_mod (pe_op op_add (pe_op op_add (pe_op op_mul (pv 1) pe_int) (pv 2)) pe_int) pe_int))))
      (pss_one (ps_ret (pe_lst (pa_cons (pv 0) (pa_cons pe_int (pa_cons (pv 1) (pa_cons pe_int pa_nil))))))))), ?_⟩
    refine ⟨_, rfl, c, rfl, ⟨_, hS⟩, for_list (K := K) (a := c) (xs := ns.map V.int) (fun i σ H' => ∃ (m : Int) (v : Option V), σ = [some (.ref c), some (.int m), v] ∧ 0 ≤ m ∧ m < 2147483647 ∧ H' = H) ⟨1, none, rfl, by decide, by decide, rfl⟩ (fun i σ H' _ ⟨_, _, _, _, _, e⟩ => e ▸ hS) ?_ ?_⟩
    · rintro i v σ H' hi ⟨m, o, rfl, m0, m1, rfl⟩
      obtain ⟨u, rfl⟩ : ∃ u, v = V.int u := by
        rw [List.getElem?_map] at hi
        cases e : ns[i]? with
        | none => rw [e] at hi; cases hi
        | some u => rw [e] at hi; exact ⟨u, (Option.some.inj hi).symm⟩
      refine ⟨_, rfl, _, _, rfl, rfl, .inr ⟨by decide, by decide⟩, _, rfl, _, _, rfl, rfl, _, _, rfl, rfl, _, _, rfl, rfl, (by show (0 : Int) < 2147483647; decide), ?_⟩
      exact ⟨_, _, rfl, Int.emod_nonneg _ (by omega), Int.emod_lt_of_pos _ (by omega), rfl⟩
    · rintro σ H' ⟨m, o, rfl, m0, m1, rfl⟩
      refine ⟨_, rfl, _, rfl, by show 4 ≤ sizeLine; decide, fun x hx => ?_⟩
      exact k x _ ⟨ns, 0, m, 0, upd_same, (same_upd hx).seq hS, by decide, m0, m1, by decide, hl⟩ (same_upd hx) hx
theorem ok__law_drawn (T : Txt K mg a) : FnOk P w K mg base CX0 1 a.f__law_drawn a.d__law_drawn ["_law_state", "_law_count"] (spDrawn K) := by
  refine T.F__law_drawn.ok sc__law_drawn (fun vs H Q E h => ?_) (fun cdv A outer s H vs Q E hr h => ?_)
  · obtain ⟨x, y, lim, rfl, _⟩ := h
    rfl
  · obtain ⟨x, y, lim, rfl, lh, l0, l1, k⟩ := h
    obtain ⟨ns, i, m, c, hx, hy, i0, m0, m1, c0, nl⟩ := id lh
    refine ⟨_, (pss_cons (ps_if (pt_cmpR op_gt (pe_ix ix_list (pv 0) pe_int (fun _ _ => rfl)) pe_int (nomark _)) (pss_cons (ps_set (i := 2) sc__law_drawn.nd rfl (Or.inl rfl) (pe_op op_mod (pe_ix ix_list (pv 0) pe_int (fun _ _ => rfl)) (pv 1)))
      (pss_cons (ps_asg (pe_op op_fdivW (pe_ix ix_list (pv 0) pe_int (fun _ _ => rfl)) (pv 1)) (pg_sub (pv 0) pe_int set_list))
      (pss_one (ps_ret (pv 2))))) pss_nil)
      (pss_cons (ps_asg (pe_op op_add (pe_ix ix_list (pv 0) pe_int (fun _ _ => rfl)) pe_int) (pg_sub (pv 0) pe_int set_list))
      (pss_cons (ps_if (pt_cmpR op_le (pe_ix ix_list (pv 0) pe_int (fun _ _ => rfl)) (pe_callB call_len_seq (by rfl) T.z_len PySem.boot_len (pa_cons (pe_ix ix_list (pv 0) pe_int (fun _ _ => rfl)) pa_nil)) (nomark _)) (pss_cons (ps_set (i := 3) sc__law_drawn.nd rfl (Or.inl rfl) (pe_ix ix_list (pe_ix ix_list (pv 0) pe_int (fun _ _ => rfl)) (pe_op op_sub (pe_ix ix_list (pv 0) pe_int (fun _ _ => rfl)) pe_int) (fun _ _ => rfl)))
      (pss_cons (ps_asg (pe_ifExp (pt_cmpR op_ge (pv 3) (pe_op op_pow pe_int pe_int) (nomark _)) (pe_op op_fdivW (pv 3) (pv 1)) pe_int) (pg_sub (pv 0) pe_int set_list))
      (pss_one (ps_ret (pe_op op_mod (pv 3) (pv 1)))))) pss_nil)
      (pss_cons (ps_asg (pe_op op_mod (pe_op op_add (pe_op op_mul (pe_ix ix_list (pv 0) pe_int (fun _ _ => rfl)) pe_int) pe_int) pe_int) (pg_sub (pv 0) pe_int set_list))
      (pss_one (ps_ret (pe_op op_mod (pe_op op_fdiv (pe_ix ix_list (pv 0) pe_int (fun _ _ => rfl)) pe_int) (pv 1)))))))), ?_⟩
    have nl' : (ns.map V.int).length = ns.length := List.length_map _
    refine ⟨_, rfl, x, _, _, _, rfl, rfl, SqL.of hx, rfl, _, _, rfl, rfl, _, rfl, ?_⟩
    have stay : ∀ {o : HO}, SqL K (upd H x o) y (ns.map V.int) := sqOff hx hy
    refine ite2 (fun big => ?_) (fun small => ?_)
    · refine ⟨_, rfl, x, _, _, _, rfl, rfl, SqL.of hx, rfl, _, rfl, _, _, rfl, rfl, l0, ?_⟩
      refine ⟨_, rfl, x, _, _, _, rfl, rfl, SqL.of hx, rfl, _, rfl, _, _, rfl, rfl, wide_div (b := 64) l0 (by omega) (by decide) (by decide), _, rfl, x, _, _, _, rfl, rfl, hx, rfl, ?_⟩
      refine ⟨_, rfl, k _ _ (Int.emod_nonneg _ (by omega)) (Int.emod_lt_of_pos _ l0) ⟨ns, i, m, c / lim, upd_same, stay, i0, m0, m1, Int.ediv_nonneg c0 (by omega), nl⟩ Kp.upd⟩
    · refine ⟨_, rfl, x, _, _, _, rfl, rfl, SqL.of hx, rfl, _, _, rfl, rfl, _, rfl, x, _, _, _, rfl, rfl, hx, rfl, ?_⟩
      have hx1 := upd_same (H := H) (a := x) (o := .lst [.ref y, .int (i + 1), .int m, .int c])
      have hy1 := stay (o := .lst [.ref y, .int (i + 1), .int m, .int c])
      have k1 : Kp x H (upd H x (.lst [.ref y, .int (i + 1), .int m, .int c])) := Kp.upd
      refine (?_ : tSeq _ _ _ _ (upd H x (.lst [.ref y, .int (i + 1), .int m, .int c])))
      generalize upd H x (.lst [.ref y, .int (i + 1), .int m, .int c]) = H1 at hx1 hy1 k1 ⊢
      refine ⟨_, rfl, x, _, _, _, rfl, rfl, SqL.of hx1, rfl, _, rfl, x, _, _, _, rfl, rfl, SqL.of hx1, rfl, y, _, rfl, .inl hy1, _, _, rfl, rfl, _, rfl, ?_⟩
      refine ite2 (fun le => ?_) (fun gt => ?_)
      · have le : i + 1 ≤ (((ns.map V.int).length : Nat) : Int) := of_decide_eq_true le
        have hi : i.toNat < ns.length := by omega
        have hat : atI (ns.map V.int) (i + 1 - 1) = some (.int (ns.getD i.toNat 0)) := by
          refine at_int (by omega) ?_
          rw [show (i + 1 - 1).toNat = i.toNat by omega]
          exact map_at hi
        generalize ns.getD i.toNat 0 = cell at hat
        refine ⟨_, rfl, x, _, _, _, rfl, rfl, SqL.of hx1, rfl, _, rfl, x, _, _, _, rfl, rfl, SqL.of hx1, rfl, _, _, rfl, rfl, y, _, _, _, rfl, rfl, hy1, hat, ?_⟩
        refine ⟨_, rfl, _, _, rfl, rfl, ⟨by decide, by decide, by decide⟩, _, _, rfl, rfl, _, rfl, ?_⟩
        have fin : ∀ c' : Int, 0 ≤ c' → ∀ r : Int, 0 ≤ r → r < lim → Q (.int r) (upd H1 x (.lst [.ref y, .int (i + 1), .int m, .int c'])) := fun c' hc' r r0 r1 => k r _ r0 r1 ⟨ns, i + 1, m, c', upd_same, sqOff hx1 hy1, by omega, m0, m1, hc', nl⟩ (k1.trans Kp.upd)
        refine ite2 (fun g => ?_) (fun g => ?_)
        · have g : (10 : Int) ^ (18 : Int).toNat ≤ cell := of_decide_eq_true g
          have p18 : (10 : Int) ^ (18 : Int).toNat = 1000000000000000000 := by decide
          refine ⟨_, rfl, _, rfl, _, _, rfl, rfl, wide_div (b := 64) l0 (by omega) (by decide) (by decide), _, rfl, x, _, _, _, rfl, rfl, hx1, rfl, ?_⟩
          exact ⟨_, rfl, _, rfl, _, _, rfl, rfl, l0, fin _ (Int.ediv_nonneg (by omega) (by omega)) _ (Int.emod_nonneg _ (by omega)) (Int.emod_lt_of_pos _ l0)⟩
        · refine ⟨_, rfl, x, _, _, _, rfl, rfl, hx1, rfl, ?_⟩
          exact ⟨_, rfl, _, rfl, _, _, rfl, rfl, l0, fin _ (by decide) _ (Int.emod_nonneg _ (by omega)) (Int.emod_lt_of_pos _ l0)⟩
      · refine ⟨_, rfl, x, _, _, _, rfl, rfl, SqL.of hx1, rfl, _, _, rfl, rfl, .inr ⟨by decide, by decide⟩, _, _, rfl, rfl, _, _, rfl, rfl, (by show (0 : Int) < 2147483647; decide), _, rfl, x, _, _, _, rfl, rfl, hx1, rfl, ?_⟩
        refine ⟨_, rfl, x, _, _, _, rfl, rfl, SqL.of upd_same, rfl, _, _, rfl, rfl, ⟨by decide, by decide⟩, _, rfl, _, _, rfl, rfl, l0, k _ _ (Int.emod_nonneg _ (by omega)) (Int.emod_lt_of_pos _ l0) ?_ (k1.trans Kp.upd)⟩
        exact ⟨_, i + 1, _, c, upd_same, sqOff hx1 hy1, by omega, Int.emod_nonneg _ (by omega), Int.emod_lt_of_pos _ (by omega), c0, nl⟩
end
end W6

set_option maxHeartbeats 4000000
/-! a lambda (no parameter, or one with a default) as a value: made, kept in a list, called by a def that gets it, also from a comprehension -/
namespace Ru
open PySem PySem.Spec PyProof.Rows L2 LamX
theorem sameU {H : Hp} {p : Addr} {o : HO} (h : H p = none) : Same H (upd H p o) := fun b u e => by rw [upd_ne (ne_of_none e h)]; exact e
/-- the lambda that stands at f -/
def LamO (q : Str) (params : Arguments) (body : Expr) (scope : Scope) (cl : List (Str × Addr)) (dV : Value) (c' f : Addr) : HO :=
  .ext fun h => ∃ doc pm ctv : Value, h.get? f = some (PySem.W.kdv_obj "<lambda>" q params (.expr body) scope cl dV doc pm c' ctv)
/-- its defaults -/
def DflH (H : Hp) (dV : Value) (ds : List V) : Prop := (ds = [] ∧ dV = .none) ∨ (ds ≠ [] ∧ ∃ T : Addr, dV = .ref T ∧ H T = some (.tup ds))
def LamAt (X : Cx) (H : Hp) (f : Addr) (params : Arguments) (body : Expr) (scope : Scope) (ds : List V) : Prop :=
  ∃ (c' : Addr) (dV : Value), H f = some (LamO (X.env.qual ++ "<lambda>") params body scope (cloFrom X.env.cells scope.names []) dV c' f) ∧ H c' = some (CodeO c' (X.env.qual ++ "<lambda>")) ∧ DflH H dV ds
theorem lamO_ne {q : Str} {params : Arguments} {body : Expr} {scope : Scope} {cl : List (Str × Addr)} {dV : Value} {c' f : Addr} (ps : Array Value) : LamO q params body scope cl dV c' f ≠ .tbl ps := fun z => by
  unfold LamO at z
  cases z
theorem LamAt.ext {X : Cx} {H H' : Hp} {f : Addr} {params : Arguments} {body : Expr} {scope : Scope} {ds : List V} (h : LamAt X H f params body scope ds) (e : ExtN H H') : LamAt X H' f params body scope ds := by
  obtain ⟨c', dV, h1, h2, h3⟩ := h
  refine ⟨c', dV, e _ _ h1 lamO_ne, e _ _ h2 codeO_ne, ?_⟩
  rcases h3 with h3 | ⟨h0, T, h3, h4⟩
  · exact .inl h3
  · exact .inr ⟨h0, T, h3, e _ _ h4 fun ps z => nomatch z⟩
theorem LamAt.same {X : Cx} {H H' : Hp} {f : Addr} {params : Arguments} {body : Expr} {scope : Scope} {ds : List V} (h : LamAt X H f params body scope ds) (e : Same H H') : LamAt X H' f params body scope ds := h.ext (ExtN.of e)
/-! ### making -/
section
variable {X : Cx} {pins : List (Addr × Obj)} {σ : L2.St} {H : Hp} {s : Shared}
theorem lam_tail {T : List (Addr × Str)} {c P : Addr} {params : Arguments} {body : Expr} {scope : Scope} {pos : Pos} {E : Value → Shared → Prop} {Q : Value → Shared → Prop} {dV : Value} {ds : List V} {fl : Nat} (I : Inv X pins σ H s) (TB : TabB X.base X.mg c P) (hcode : X.env.code = .ref c)
    (hm : (P, X.env.qual ++ "<lambda>") ∈ T) (hu : ∀ p ∈ T, p.1 = P → p.2 = X.env.qual ++ "<lambda>") (hT : Tabs T H) (hfree : ∀ y ∈ scope.names, y.2 = .free → ∃ c, X.env.cells.lookup y.1 = some c) (hd : DflH H dV ds)
    (h : ∀ (f : Addr) (H1 : Hp) (s' : Shared), Inv X pins σ H1 s' → ExtN H H1 → Tabs T H1 → H f = none → LamAt X H1 f params body scope ds → Q (.ref f) s') :
    wpAny (model X.prog X.w) X.A (makeTail "<lambda>" (X.env.qual ++ "<lambda>") params (.expr body) scope X.env dV .none none pos fl) Q E s := by
  obtain ⟨ps, hP, ht, ha⟩ := hT _ hm
  have bP : s.heap.BuiltinsAt X.mg P := TB.bm.keeps I.bk
  have hP' : s.heap.get? P = some { cls := .none, data := .fields ps } := I.hok P _ hP
  -- the object is laid and tracked
  have fin : ∀ (H1 : Hp) (h' : Heap) (tk : Nat) (c' : Addr) (doc ctv : Value), Inv X pins σ H1 { s with heap := h', toks := tk } → ExtN H H1 → Tabs T H1 → s.heap.objs.size ≤ h'.objs.size → H1 c' = some (CodeO c' (X.env.qual ++ "<lambda>")) →
      Q (.ref h'.objs.size) { s with heap := h'.push (PySem.W.kdv_obj "<lambda>" (X.env.qual ++ "<lambda>") params (.expr body) scope (cloFrom X.env.cells scope.names []) dV doc ((X.mg "__name__").getD .none) c' ctv), toks := tk } := fun H1 h' tk c' doc ctv I1 eN T1 hz hc => by
    have hf1 : H1 h'.objs.size = none := I1.hok.fresh (Nat.le_refl _)
    have sm : Same H1 (upd H1 h'.objs.size (LamO (X.env.qual ++ "<lambda>") params body scope (cloFrom X.env.cells scope.names []) dV c' h'.objs.size)) := sameU hf1
    have I2 := I1.laid (a := h'.objs.size) (o := LamO (X.env.qual ++ "<lambda>") params body scope (cloFrom X.env.cells scope.names []) dV c' h'.objs.size) (t' := tk)
      (h' := h'.push (PySem.W.kdv_obj "<lambda>" (X.env.qual ++ "<lambda>") params (.expr body) scope (cloFrom X.env.cells scope.names []) dV doc ((X.mg "__name__").getD .none) c' ctv))
      (fun b o e => Heap.get?_push_of_some _ e) (Nat.le_refl _) ⟨⟨doc, _, ctv, Heap.get?_push_size _ rfl⟩, ⟨_, Heap.get?_push_size _ rfl⟩, fun h1 h2 ⟨a, b, c, e⟩ st => ⟨a, b, c, st _ e⟩⟩
    refine h h'.objs.size _ _ I2 (eN.trans (ExtN.of sm)) (T1.ext sm) (I.hok.fresh hz) ⟨c', dV, upd_same, sm _ _ hc, ?_⟩
    rcases hd with z | ⟨z0, Td, z1, z2⟩
    · exact .inl z
    · exact .inr ⟨z0, Td, z1, sm _ _ (eN _ _ z2 fun ps z => nomatch z)⟩
  cases hc : codeAmong pos ps.toList with
  | none =>
    refine PySem.W.kdv_makeTail (mg := X.mg) (c := c) (P := P) (ps := ps) (closure_ok hfree) I.ok.glob (I.mod.glob.keeps I.bk) hcode (TB.code.keeps I.bk) hP' ht hc TB.gP bP fun c' ctv doc h' tk hx hge hlt hrec htb => ?_
    obtain ⟨c2, oc, vs, t, e2, hoc, hdd, hv⟩ := hrec
    cases e2
    have hsz : s.heap.objs.size ≤ h'.objs.size := Nat.le_trans hge (Nat.le_of_lt hlt)
    have nC : H c' = none := I.hok.fresh hge
    have I1 := inv_table (t' := tk) (more := #[rawInt pos.line, rawInt pos.col, .ref c']) (h' := h') I hP (fun b o hb e => hx b o hb e) htb hge ⟨oc, vs, t, hoc, hdd, hv⟩
    have hE : ExtN H (upd (upd H P (.tbl (ps ++ #[rawInt pos.line, rawInt pos.col, .ref c']))) c' (CodeO c' (X.env.qual ++ "<lambda>"))) := fun b o e n => by
      rw [upd_ne (ne_of_none e nC), upd_ne (fun z => n ps (Option.some.inj (e.symm.trans (by rw [z]; exact hP))))]
      exact e
    have eL : (ps ++ #[rawInt pos.line, rawInt pos.col, .ref c']).toList = ps.toList ++ [rawInt pos.line, rawInt pos.col, .ref c'] := by simp
    refine fin _ h' tk c' doc ctv I1 hE (fun p hp => ?_) hsz upd_same
    by_cases hb : p.1 = P
    · rw [hu p hp hb, hb]
      refine ⟨_, by rw [upd_ne (ne_of_none hP nC), upd_same], by rw [eL]; exact PySem.TriplesOk_snoc _ _ _ _ ht, fun p' cv hcv => ?_⟩
      rw [eL] at hcv
      rcases among_app _ ht hcv with z | z
      · obtain ⟨c0, e1, e2⟩ := ha p' cv z
        exact ⟨c0, e1, hE _ _ e2 codeO_ne⟩
      · exact ⟨c', z, upd_same⟩
    · obtain ⟨ps', a1, a2, a3⟩ := hT p hp
      refine ⟨ps', by rw [upd_ne (ne_of_none a1 nC), upd_ne hb]; exact a1, a2, fun p' cv hcv => ?_⟩
      obtain ⟨c0, e1, e2⟩ := a3 p' cv hcv
      exact ⟨c0, e1, hE _ _ e2 codeO_ne⟩
  | some cv =>
    obtain ⟨c', e, hco⟩ := ha pos cv hc
    subst e
    refine PySem.W.kdv_makeTailHit (mg := X.mg) (c := c) (P := P) (ps := ps) (closure_ok hfree) I.ok.glob (I.mod.glob.keeps I.bk) hcode (TB.code.keeps I.bk) hP' ht hc bP fun ctv doc h' tk hx hsz => ?_
    exact fin H h' tk c' doc ctv (I.kept fun b o e => hx b o e) (ExtN.refl H) hT hsz hco
end
/-- a lambda's reading as a value -/
def tLamV (T : List (Addr × Str)) (X : Cx) (params : Arguments) (body : Expr) (scope : Scope) (ds : List V) : TE := fun _ H Q =>
  Tabs T H ∧ ∀ (f : Addr) (H1 : Hp), ExtN H H1 → Tabs T H1 → H f = none → LamAt X H1 f params body scope ds → Q (.ref f) H1
/-- captured names and globals; its own parameters are no names of the def -/
structure LamS2 (N : List Str) (sc scope : Scope) : Prop where
  kind : scope.kind = .function
  co : scope.isCoroutine = false
  gen : scope.isGenerator = false
  own : ∀ y ∈ scope.names, y.2 ≠ .cell ∧ (y.2 = .local → y.1 ∉ N)
  free : ∀ y ∈ scope.names, y.2 = .free → sc.names.lookup y.1 = some .cell ∨ sc.names.lookup y.1 = some .free
def lamSB2 (N : List Str) (sc scope : Scope) : Bool :=
  decide (scope.kind = .function) && !scope.isCoroutine && !scope.isGenerator && scope.names.all fun y => !decide (y.2 = .cell) && (!decide (y.2 = .local) || decide (y.1 ∉ N)) && (!decide (y.2 = .free) || decide (sc.names.lookup y.1 = some .cell) || decide (sc.names.lookup y.1 = some .free))
theorem lamS2_by {N : List Str} {sc scope : Scope} (h : lamSB2 N sc scope = true) : LamS2 N sc scope := by
  unfold lamSB2 at h
  simp only [Bool.and_eq_true, Bool.or_eq_true, Bool.not_eq_true', decide_eq_true_eq, decide_eq_false_iff_not, List.all_eq_true] at h
  obtain ⟨⟨⟨h1, h2⟩, h3⟩, h4⟩ := h
  refine ⟨h1, h2, h3, fun y hy => ⟨(h4 y hy).1.1, fun e => ?_⟩, fun y hy e => ?_⟩
  · rcases (h4 y hy).1.2 with z | z
    · exact absurd e z
    · exact z
  · rcases (h4 y hy).2 with (z | z) | z
    · exact absurd e z
    · exact .inl z
    · exact .inr z
theorem LamS2.has {X : Cx} {scope : Scope} (L : LamS2 X.N X.env.scope scope) (hs : ∀ x, (X.env.kindOf x = some .cell ∨ X.env.kindOf x = some .free) → ∃ c, X.env.cells.lookup x = some c) : ∀ y ∈ scope.names, y.2 = .free → ∃ c, X.env.cells.lookup y.1 = some c := fun y hy e => by
  rcases L.free y hy e with k | k
  · exact hs _ (.inl k)
  · exact hs _ (.inr k)
section
variable {X : Cx}
theorem pe_lam0 {T : List (Addr × Str)} {c P : Addr} {params : Arguments} {body : Expr} {scope : Scope} {pos : Pos} (TB : TabB X.base X.mg c P) (hcode : X.env.code = .ref c) (hm : (P, X.env.qual ++ "<lambda>") ∈ T) (hu : ∀ p ∈ T, p.1 = P → p.2 = X.env.qual ++ "<lambda>")
    (L : LamS2 X.N X.env.scope scope) (hdef : defaultsOf params X.env = ([], [])) : PE X (.Lambda params body scope pos) (tLamV T X params body scope []) := by
  refine ⟨fun pins s σ H Q I h => ?_⟩
  obtain ⟨hT, h⟩ := h
  refine PySem.W.kla_eval hdef ?_
  rw [makeFunction_eq]
  simp only [List.zip_nil_right, List.filterMap_nil, List.isEmpty_nil, if_true, pure_bind]
  exact lam_tail I TB hcode hm hu hT (L.has I.ok.has) (.inl ⟨rfl, rfl⟩) fun f H1 s' I1 eN T1 hf la => ⟨.ref f, H1, I1, rfl, h f H1 eN T1 hf la⟩
theorem pe_lam1 {T : List (Addr × Str)} {c P : Addr} {params : Arguments} {body : Expr} {scope : Scope} {pos : Pos} {e : Expr} {d : V} (TB : TabB X.base X.mg c P) (hcode : X.env.code = .ref c) (hm : (P, X.env.qual ++ "<lambda>") ∈ T) (hu : ∀ p ∈ T, p.1 = P → p.2 = X.env.qual ++ "<lambda>")
    (L : LamS2 X.N X.env.scope scope) (hd : params.defaults = [e]) (hk : params.kw_defaults = []) (he : PE X e (tC d)) : PE X (.Lambda params body scope pos) (tLamV T X params body scope [d]) := by
  refine ⟨fun pins s σ H Q I h => ?_⟩
  obtain ⟨hT, h⟩ := h
  refine PySem.W.kdv_lam (by rw [hd]; rfl) hk ?_
  rw [hd]
  refine PySem.W.kdv_all1 (thn (he.run pins s σ H (fun v H1 => v = d ∧ H1 = H) I ⟨rfl, rfl⟩) fun u s1 ⟨v, H1, I1, r1, q1⟩ => PySem.W.kdv_all0 ?_)
  obtain ⟨rfl, rfl⟩ := q1
  rw [makeFunction_eq]
  simp only [List.zip_nil_right, List.filterMap_nil, List.isEmpty_nil, if_true, pure_bind, List.isEmpty_cons, Bool.false_eq_true, if_false]
  refine wpAny_bind (wpAny_newTextTuple ?_)
  have hf1 : H1 s1.heap.objs.size = none := I1.hok.fresh (Nat.le_refl _)
  have sm : Same H1 (upd H1 s1.heap.objs.size (.tup [v])) := sameU hf1
  have I2 : Inv X pins σ (upd H1 s1.heap.objs.size (.tup [v])) { s1 with heap := s1.heap.push { cls := .type "tuple", data := .seq [u].toArray } } :=
    I1.laid (t' := s1.toks) (fun b o e => Heap.get?_push_of_some _ e) (Nat.le_refl _) ⟨by show 1 ≤ sizeLine; decide, [u], .cons r1 .nil, _, Heap.get?_push_size _ rfl, rfl, _, rfl⟩
  refine lam_tail I2 TB hcode hm hu (hT.ext sm) (L.has I.ok.has) (.inr ⟨List.cons_ne_nil _ _, _, rfl, upd_same⟩) fun f H2 s' J eN T2 hf la => ⟨.ref f, H2, J, rfl, h f H2 ((ExtN.of sm).trans eN) T2 ?_ la⟩
  exact sm.free hf
end
/-! ### the names a lambda captures -/
structure CellsAt (X : Cx) (σ : L2.St) (H : Hp) (h : Heap) : Prop where
  inj : ∀ x y c, X.env.cells.lookup x = some c → X.env.cells.lookup y = some c → x = y
  has : ∀ x, (X.env.kindOf x = some .cell ∨ X.env.kindOf x = some .free) → ∃ c, X.env.cells.lookup x = some c
  cell : ∀ x c, X.env.cells.lookup x = some c → (∃ v, h.IsCell c v) ∧ H c = none
  val : ∀ (i : Nat) (x : Str) (v : V), X.N[i]? = some x → σ[i]? = some (some v) → (X.env.scope.names.lookup x = some .cell ∨ X.env.scope.names.lookup x = some .free) → ∃ u c, RelV v u ∧ X.env.cells.lookup x = some c ∧ h.IsCell c (some u)
  len : σ.length = X.N.length
theorem CellsAt.of {X : Cx} {pins : List (Addr × Obj)} {σ : L2.St} {H : Hp} {s : Shared} (I : Inv X pins σ H s) : CellsAt X σ H s.heap := by
  refine ⟨I.ok.inj, I.ok.has, fun x c e => ⟨I.cell x c e, I.freeC x c e⟩, fun i x v e1 e2 k => ?_, I.len⟩
  obtain ⟨m, hn, hl⟩ := I.loc
  obtain ⟨u, r, l⟩ := hl i x v e1 e2 (k.elim (fun z => .inr (.inl z)) fun z => .inr (.inr z))
  rcases l with ⟨k', _⟩ | ⟨_, c, e', z⟩
  · have k' : X.env.scope.names.lookup x = some .local := k'
    rcases k with k | k <;> rw [k] at k' <;> cases k'
  · exact ⟨u, c, r, e', z⟩
theorem CellsAt.un {X : Cx} {σ : L2.St} {H H' : Hp} {h h' : Heap} {fs ex : List Addr} (C : CellsAt X σ H h) (un : Un fs ex H H' h h') (hex : ∀ x c, X.env.cells.lookup x = some c → c ∉ ex) : CellsAt X σ H' h' := by
  have ck : ∀ x c v, X.env.cells.lookup x = some c → h.IsCell c v → h'.IsCell c v := fun x c v e ⟨o, ho, hd⟩ => by
    obtain ⟨sl, q⟩ := un.any ho (C.cell x c e).2 (hex x c e)
    exact ⟨_, q, hd⟩
  refine ⟨C.inj, C.has, fun x c e => ?_, fun i x v e1 e2 k => ?_, C.len⟩
  · obtain ⟨⟨v, z⟩, n⟩ := C.cell x c e
    refine ⟨⟨v, ck x c v e z⟩, ?_⟩
    obtain ⟨o, ho, _⟩ := z
    exact un.free c o ho n (hex x c e)
  · obtain ⟨u, c, r, e, z⟩ := C.val i x v e1 e2 k
    exact ⟨u, c, r, e, ck x c _ e z⟩
section
variable {X : Cx} {σ : L2.St} {HZ : Hp} {s1 : Shared}
theorem lam_start3 {A : Around} {outer : List Env} {E : XK} {scope : Scope} {f c' : Addr} {h₁ : Heap} {tk : Nat} {binds : List (Str × Value)} (C : CellsAt X σ HZ s1.heap) (L : LamS2 X.N X.env.scope scope) (e0 : Env0 X.prog X.w X.K X.mg X.base A outer s1 HZ) (hd : A.handled = none)
    (hns : h₁.Ns s1.heap.objs.size fun y => binds.reverse.lookup y) (kp : ∀ b o, s1.heap.get? b = some o → h₁.get? b = some o) :
    Inv (lamCx X A outer s1 HZ E scope f c') [] σ HZ { s1 with heap := h₁, toks := tk } := by
  have hfree := L.has C.has
  have cm : ∀ {y c}, (cloFrom X.env.cells scope.names []).lookup y = some c → X.env.cells.lookup y = some c := fun {y c} e => by
    rcases cloFrom_mem (PySem.mem_of_lookup e) with hm | ⟨h1, h2⟩
    · cases hm
    · obtain ⟨c1, hc⟩ := hfree _ h1 rfl
      have hc : X.env.cells.lookup y = some c1 := hc
      have e2 : c = c1 := by
        rw [h2, hc] <;> rfl
      rw [e2]
      exact hc
  have look : ∀ {y}, scope.names.lookup y = some .free → ∃ c, (cloFrom X.env.cells scope.names []).lookup y = some c := fun {y} hl => by
    have hy : (y, NameKind.free) ∈ scope.names := PySem.mem_of_lookup hl
    exact mem_lookup (cloFrom_has (cells := X.env.cells) (acc := []) hy)
  have cellK : ∀ {c : Addr} {v : Option Value}, s1.heap.IsCell c v → h₁.IsCell c v := fun {c v} ⟨o, ho, hd⟩ => ⟨_, kp _ _ ho, hd⟩
  have noA : ∀ b : Addr, b ∉ (lamCx X A outer s1 HZ E scope f c').ex := fun b z => absurd (show b ∈ ([] : List Addr) from z) (by simp)
  refine ⟨⟨e0.mod, L.kind, rfl, rfl, Nat.le_refl _, fun y z c e1 e2 => C.inj y z c (cm e1) (cm e2), fun y hy => ?_, fun y c z _ => ?_, fun _ => hd, Around.frames_deeper e0.frames, .inr ⟨rfl, rfl⟩, fun b z => absurd z (noA b), e0.bs, e0.bsz, fun b _ _ => noA b,
      fun b z => absurd z (noA b), e0.funs, e0.frf⟩,
    rfl, e0.bare, Un.kept kp, ⟨_, hns, fun i y v e1 e2 e3 => ?_⟩, fun y c e => ?_, e0.hok.fresh (Nat.le_refl _), fun y c e => ?_, fun q hq => absurd (show q ∈ ([] : List (Addr × Obj)) ++ [] from hq) (by simp), e0.hok.kept kp, C.len⟩
  · have hy : scope.names.lookup y = some .cell ∨ scope.names.lookup y = some .free := hy
    rcases hy with hy | hy
    · exact absurd rfl (L.own _ (PySem.mem_of_lookup hy)).1
    · exact look hy
  · have z : false = true := z
    cases z
  · have e3 : Vis scope y := e3
    rcases e3 with k | k | k
    · exact absurd (List.mem_of_getElem? e1) ((L.own _ (PySem.mem_of_lookup k)).2 rfl)
    · exact absurd rfl (L.own _ (PySem.mem_of_lookup k)).1
    · obtain ⟨w', c1, r, h1, z⟩ := C.val i y v e1 e2 (L.free _ (PySem.mem_of_lookup k) rfl)
      obtain ⟨c2, h2⟩ := look k
      refine ⟨w', r, .inr ⟨.inr k, c2, h2, ?_⟩⟩
      have c3 := cm h2
      rw [h1] at c3
      cases c3
      exact cellK z
  · obtain ⟨⟨w', z⟩, _⟩ := C.cell y c (cm e)
    exact ⟨w', cellK z⟩
  · exact (C.cell y c (cm e)).2
end
/-! ### calling -/
/-- what the call f() binds -/
def LamBnd (params : Arguments) (body : Expr) (scope : Scope) (ds : List V) : Prop :=
  ∀ (q : Str) (cl : List (Str × Addr)) (doc pm cv ctv dV : Value) (s : Shared), ((ds = [] ∧ dV = .none) ∨ (ds ≠ [] ∧ ∃ (T : Addr) (o : Obj) (its : List Value) (n : Nat), dV = .ref T ∧ s.heap.get? T = some o ∧ o.data = .seq its.toArray n ∧ Vals ds its)) →
    ∃ binds, BindsTo s (PySem.W.kdv_fn "<lambda>" q params (.expr body) scope cl dV doc pm cv ctv) ⟨[], []⟩ binds ∧ ∀ y ∈ binds, scope.names.lookup y.1 = some .local
theorem lamB0 {params : Arguments} {body : Expr} {scope : Scope} (h : ∀ (q : Str) (cl : List (Str × Addr)) (doc pm cv ctv : Value), bindArgs (PySem.W.kdv_fn "<lambda>" q params (.expr body) scope cl .none doc pm cv ctv) ⟨[], []⟩ = pure []) : LamBnd params body scope [] := by
  intro q cl doc pm cv ctv dV s hd
  rcases hd with ⟨_, rfl⟩ | ⟨e, _⟩
  · exact ⟨[], .of_eq (h _ _ _ _ _ _), fun y hy => by cases hy⟩
  · exact absurd rfl e
theorem lamB1 {params : Arguments} {body : Expr} {scope : Scope} {a : Str} {d : V} (hl : scope.names.lookup a = some .local)
    (h : ∀ (q : Str) (cl : List (Str × Addr)) (T : Addr) (doc pm cv ctv u : Value), ∃ k, bindArgs (PySem.W.kdv_fn "<lambda>" q params (.expr body) scope cl (.ref T) doc pm cv ctv) ⟨[], []⟩ = seqItems? (.ref T) >>= k ∧ k (some #[u]) = pure [(a, u)]) : LamBnd params body scope [d] := by
  intro q cl doc pm cv ctv dV s hd
  rcases hd with ⟨e, _⟩ | ⟨_, T, o, its, n, rfl, ho, hdd, r⟩
  · cases e
  · obtain ⟨u, rfl, _⟩ := r.one
    obtain ⟨k, h1, h2⟩ := h q cl T doc pm cv ctv u
    refine ⟨[(a, u)], .of_defaults rfl ho hdd h1 h2, fun y hy => ?_⟩
    rcases List.mem_singleton.mp hy with rfl
    exact hl
/-- what is known of a lambda's body -/
structure LamB (X : Cx) (k : Nat) (params : Arguments) (body : Expr) (scope : Scope) (ds : List V) (t : XK → TE) : Prop where
  L : LamS2 X.N X.env.scope scope
  bnd : LamBnd params body scope ds
  pe : ∀ (A : Around) (outer : List Env) (s : Shared) (H : Hp) (E : XK) (f c' : Addr), Room k (A.deeper (lamEnv X scope s.heap.objs.size f c')) → PE (lamCx X A outer s H E scope f c') body (t E)
end Ru

set_option maxHeartbeats 4000000
/-! calls of lambdas that are values: by a def that gets one; a comprehension whose element calls such a def -/
namespace Ru
open PySem PySem.Spec PyProof.Rows L2 LamX
/-- the call of the lambda at f -/
theorem lam_run {X : Cx} {A : Around} {outer : List Env} {s : Shared} {H : Hp} {σ : L2.St} {f : Addr} {params : Arguments} {body : Expr} {scope : Scope} {ds : List V} {t : XK → TE} {k : Nat} {E : XK} {Q : VK}
    (e0 : Env0 X.prog X.w X.K X.mg X.base A outer s H) (C : CellsAt X σ H s.heap) (la : LamAt X H f params body scope ds) (B : LamB X k params body scope ds t) (hr : Room (k + 1) A) (h : t E σ H Q) :
    codeAny (model X.prog X.w) A (.call (.ref f) ⟨[], []⟩) (CR (L2.CX X.prog X.w) outer X.prog X.w H s Q E) s := by
  obtain ⟨c', dV, hf, hc, hd⟩ := la
  obtain ⟨⟨doc, pm, ctv, lam⟩, _, _⟩ := e0.hok f _ hf
  obtain ⟨⟨oc, vs, tc, hoc, hdc, hvc⟩, _, _⟩ := e0.hok c' _ hc
  have lim : s.heap.NoLimit := e0.mod.nolimit.keeps fun b o e => (e0.bs b o e).1
  have hd' : (ds = [] ∧ dV = .none) ∨ (ds ≠ [] ∧ ∃ (T : Addr) (o : Obj) (its : List Value) (n : Nat), dV = .ref T ∧ s.heap.get? T = some o ∧ o.data = .seq its.toArray n ∧ Vals ds its) := by
    rcases hd with z | ⟨z0, T, z1, z2⟩
    · exact .inl z
    · obtain ⟨_, its, r, o, ho, _, n, hn⟩ := e0.hok T _ z2
      exact .inr ⟨z0, T, o, its, n, z1, ho, hn, r⟩
  obtain ⟨binds, hb, hloc⟩ := B.bnd (X.env.qual ++ "<lambda>") (cloFrom X.env.cells scope.names []) doc pm (.ref c') ctv dV s hd'
  refine PySem.W.kla_callFunE hr.depth lam rfl B.L.co B.L.gen rfl ⟨c', oc, vs, tc, rfl, hoc, hdc, hvc⟩ (hb _ _ _ _ ?_)
  refine wpAny_newFunctionEnv (fun y hy => (B.L.own y hy).1) hloc (fun hB nsB sb => ⟨lim.fresh _ sb, ?_⟩) B.L.kind
  show codeAny _ _ (.expr body (lamEnv X scope s.heap.objs.size f c')) _ _
  have kp : ∀ b o, s.heap.get? b = some o → hB.get? b = some o := fun b o e => sb.extBut b o (Nat.ne_of_lt (Heap.lt_size e)) (Heap.get?_push_of_some _ e)
  have J := lam_start3 (f := f) (c' := c') (E := E) (tk := s.toks + binds.length) C B.L e0 hr.hd nsB kp
  refine PySem.W.kla_codeExpr (wpAny_mono ((B.pe _ _ s H E f c' (hr.deeper _)).run [] _ _ H Q J h) (fun v sx hq => ?_) fun e sx hq => hq)
  obtain ⟨vv, Hx, Jx, rv, q⟩ := hq
  exact ⟨vv, Hx, Jx.os, Jx.bare, Jx.base, Jx.hok, rv, q⟩
/-- a() in the def that got f as its first parameter: what the try around takes may rest on the state at the call -/
def tAct2 (f : Addr) (H : Hp) (tl : XK → Hp → VK → Prop) (W : WX) : TE := fun σz Hz Q =>
  σz[0]? = some (some (.ref f)) ∧ Same H Hz ∧ ∃ Ez : XK, (∀ cls d Hy, Ez cls d Hy → W cls d σz Hy) ∧ tl Ez Hz Q
section
variable {X : Cx}
theorem pe_act2 {sg : Scope} {g : Addr} {cdg : Value} {Ng : List Str} {qg a : Str} {s : Shared} {H : Hp} {σ : L2.St} {f : Addr} {params : Arguments} {body : Expr} {scope : Scope} {ds : List V} {k : Nat} {pn : List (Addr × Obj)} {xe : Value → Shared → Prop} {W : WX} {t : XK → TE} {pa pc : Pos}
    (C : CellsAt X σ H s.heap) (la : LamAt X H f params body scope ds) (B : LamB X k params body scope ds t)
    (tk : Takes ((cxOf C8.CX0 X.prog X.w X.K X.mg X.base Ng qg sg g cdg X.A X.stack s H C8.E0).tr pn xe) W) (hr : Room (k + 1) (X.A.deeper (envOfC qg sg s.heap.objs.size g cdg)))
    (hN : Ng[0]? = some a) (hv : Vis sg a) (hd : (a == ("__debug__" : Str)) = false) (hcd : (a == ("__classdict__" : Str)) = false) :
    PE ((cxOf C8.CX0 X.prog X.w X.K X.mg X.base Ng qg sg g cdg X.A X.stack s H C8.E0).tr pn xe) (.Call (.Name a pa) [] [] pc) (tAct2 f H (fun Ez Hz Q => t Ez σ Hz Q) W) := by
  refine ⟨fun pz sz σz Hz Q Iz h => ?_⟩
  obtain ⟨hs, sm, Ez, hW, ht⟩ := h
  refine wpAny_Call_Name_kw (thn ((pe_var (pos := pa) (i := 0) hN hv hd hcd).run pz sz σz Hz (fun v Hy => v = .ref f ∧ Hy = Hz) Iz ⟨.ref f, hs, rfl, rfl⟩) fun u sy ⟨v, Hy, Iy, ry, qy⟩ => ?_)
  obtain ⟨rfl, rfl⟩ := qy
  obtain rfl : u = Value.ref f := ry
  have la' := la.same sm
  obtain ⟨c', dV, hf, hc, hdd⟩ := id la'
  obtain ⟨⟨doc, pm, ctv, lam⟩, _, _⟩ := Iy.hok f _ hf
  refine PySem.W.callWith_F0 ⟨_, _, _, _, lam⟩ ?_
  have un : Un (frs X.stack) [] H Hy s.heap sy.heap := Iy.base
  have run : codeAny (model X.prog X.w) (X.A.deeper (envOfC qg sg s.heap.objs.size g cdg)) (.call (.ref f) ⟨[], []⟩)
      (CR (L2.CX X.prog X.w) (envOfC qg sg s.heap.objs.size g cdg :: X.stack) X.prog X.w Hy sy Q Ez) sy :=
    lam_run (X := X) Iy.env0 (C.un un fun _ _ _ z => nomatch z) la' B hr ht
  refine wpAny_call (codeAny_mono run fun r sx hq => ?_)
  cases r with
  | error e => exact tk e sx (XE.of_call Iy (fun cls d Hx hE => hW cls d Hx hE) hq)
  | ok fl =>
    cases fl with
    | ret u => exact Iy.after hq
    | next => exact False.elim hq
    | brk => exact False.elim hq
    | cont => exact False.elim hq
/-- the def that calls what it got (its first parameter a); TT: what it makes of the lambda's reading -/
def Gives2 (X : Cx) (Ng : List Str) (x : Str) (sg : Scope) (g : Addr) (cdg : Value) (bg : List Stmt) (a : Str) (TT : (XK → Hp → VK → Prop) → Hp → VK → Prop) : Prop :=
  ∀ (f : Addr) (s : Shared) (H : Hp) (Q : VK) (tl : XK → Hp → VK → Prop), Room 9 (X.A.deeper (envOfC x sg s.heap.objs.size g cdg)) →
    (∀ (W : WX) (pn : List (Addr × Obj)) (xe : Value → Shared → Prop) (pa pc : Pos), Takes ((cxOf C8.CX0 X.prog X.w X.K X.mg X.base Ng x sg g cdg X.A X.stack s H C8.E0).tr pn xe) W →
      PE ((cxOf C8.CX0 X.prog X.w X.K X.mg X.base Ng x sg g cdg X.A X.stack s H C8.E0).tr pn xe) (.Call (.Name a pa) [] [] pc) (tAct2 f H tl W)) →
    TT tl H Q →
    ∃ t, PSs (cxOf C8.CX0 X.prog X.w X.K X.mg X.base Ng x sg g cdg X.A X.stack s H C8.E0) bg t ∧ t { nx := fun _ H' => Q .non H', rt := Q } (L2.start Ng [.ref f]) H
/-- such a def, as it stands behind the top -/
structure GiveF (X : Cx) (Ng : List Str) (x : Str) (sg : Scope) (g : Addr) (bg : List Stmt) (a : Str) (TT : (XK → Hp → VK → Prop) → Hp → VK → Prop) : Prop where
  hm : X.mg x = some (.ref g)
  hk : PySem.W.keepIn X.K (.ref g) = true
  ex : ∃ (pg : Arguments) (dV kV doc pm cdv ct oc : Value) (an od : Option Addr) (osl : Array (Option Value)), X.K.lookup g = some ⟨oc, od, .func (PySem.W.fnOf x x pg bg sg dV kV doc pm an cdv ct), osl⟩ ∧ PySem.W.codeIn X.K cdv x = true ∧
    L2.Binds X.K (PySem.W.fnOf x x pg bg sg dV kV doc pm an cdv ct) [a] [] ∧ Gives2 X Ng x sg g cdv bg a TT
  Sg : FnScope Ng [a] sg
  hN : Ng[0]? = some a
  hv : Vis sg a
  hd : (a == ("__debug__" : Str)) = false
  hcd : (a == ("__classdict__" : Str)) = false
theorem give_run {TT : (XK → Hp → VK → Prop) → Hp → VK → Prop} {x a : Str} {g : Addr} {k : Nat} {bg : List Stmt} {sg : Scope} {Ng : List Str} {params : Arguments} {body : Expr} {scope : Scope} {ds : List V} {t : XK → TE} {s : Shared} {H : Hp} {σ : L2.St} {f : Addr} {Q : VK}
    (G : GiveF X Ng x sg g bg a TT) (e0 : Env0 X.prog X.w X.K X.mg X.base X.A X.stack s H) (C : CellsAt X σ H s.heap) (hr : Room (k + 2) X.A) (h9 : 9 ≤ k + 1) (la : LamAt X H f params body scope ds) (B : LamB X k params body scope ds t)
    (h : TT (fun E H' Q' => t E σ H' Q') H Q) : codeAny (model X.prog X.w) X.A (.call (.ref g) ⟨[.ref f], []⟩) (CR C8.CX0 X.stack X.prog X.w H s Q C8.E0) s := by
  obtain ⟨pg, dV, kV, doc, pm, cdv, ct, oc, an, od, osl, lk, hcg, hbi, hG⟩ := G.ex
  have kin : X.K.In s.heap := e0.mod.kin.keeps fun b o e => (e0.bs b o e).1
  refine run_ofS (N := Ng) (ps := [a]) (us := [.ref f]) (vs := [.ref f]) lk hcg G.Sg hr e0 (hbi s [.ref f] kin rfl) (.cons rfl .nil) rfl fun hr' => ?_
  exact hG f s H Q (fun E H' Q' => t E σ H' Q') (hr'.mono h9) (fun W pn xe pa pc tk => pe_act2 C la B tk hr' G.hN G.hv G.hd G.hcd) h
/-- what a call of such a def asks: the value is a lambda of ours -/
def tGive (X : Cx) (k : Nat) (TT : (XK → Hp → VK → Prop) → Hp → VK → Prop) (ta : TA) (τ : L2.St → L2.St) : TE := fun σz H Q =>
  ta σz H fun vs H1 => ∃ (f : Addr) (params : Arguments) (body : Expr) (scope : Scope) (ds : List V) (t : XK → TE), vs = [.ref f] ∧ LamAt X H1 f params body scope ds ∧ LamB X k params body scope ds t ∧ TT (fun E H' Q' => t E (τ σz) H' Q') H1 Q
/-- x(e), e a lambda of the def that runs -/
theorem pe_give2 {TT : (XK → Hp → VK → Prop) → Hp → VK → Prop} {x a : Str} {g : Addr} {k : Nat} {bg : List Stmt} {sg : Scope} {Ng : List Str} {e : Expr} {ta : TA} {p pos : Pos} (G : GiveF X Ng x sg g bg a TT) (hg : Gl X x) (hr : Room (k + 2) X.A) (h9 : 9 ≤ k + 1) (ha : PA X [e] ta)
    (hdb : (x == ("__debug__" : Str)) = false := by decide) (he : starEach [e] X.env = (false, eval e X.env) :: starEach [] X.env := by rfl) (hpl : (backTo pos (starEach [] X.env)).any (·.1) = false := by rfl) :
    PE X (.Call (.Name x p) [e] [] pos) (tGive X k TT ta id) := by
  refine ⟨fun pins s σ H Q I h => ?_⟩
  refine wpAny_Call_Name_kw (ld_glob I hg G.hm ?_ hdb)
  refine PySem.W.callWith_K (h₀ := X.base) I.ok.mod.kin G.hk (thn (ha.run pos pins s σ H _ I h) fun us s1 ⟨vs, H1, I1, r, q⟩ => ⟨I1.kIn, ?_⟩) he hpl
  obtain ⟨f, params, body, scope, ds, t, rfl, la, B, q⟩ := q
  obtain ⟨u, rfl, ru⟩ := r.one
  obtain rfl : u = Value.ref f := ru
  refine wpAny_call (codeAny_mono (give_run G I1.env0 (.of I1) hr h9 la B q) fun r sx hq => ?_)
  cases r with
  | error e => exact (show False from hq).elim
  | ok fl =>
    cases fl with
    | ret u => exact I1.after hq
    | next => exact False.elim hq
    | brk => exact False.elim hq
    | cont => exact False.elim hq
/-- the same in a comprehension's block -/
theorem pe_give2B {TT : (XK → Hp → VK → Prop) → Hp → VK → Prop} {x a : Str} {g : Addr} {k : Nat} {bg : List Stmt} {sg : Scope} {Ng : List Str} {e : Expr} {ta : TA} {p pos : Pos} {pins0 : List (Addr × Obj)} {s0 : Shared} {H0 : Hp} {σ0 : L2.St} {bscope : Scope} {cenv : Env} {fp : List Addr}
    (I0 : Inv X pins0 σ0 H0 s0) (hfp : ∀ b ∈ fp, FpOk X pins0 H0 b) (G : GiveF X Ng x sg g bg a TT) (hg : Gl (X.blk s0 H0 bscope cenv fp) x) (hr : Room (k + 2) X.A) (h9 : 9 ≤ k + 1) (ha : PA (X.blk s0 H0 bscope cenv fp) [e] ta)
    (hdb : (x == ("__debug__" : Str)) = false := by decide) (he : starEach [e] cenv = (false, eval e cenv) :: starEach [] cenv := by rfl) (hpl : (backTo pos (starEach [] cenv)).any (·.1) = false := by rfl) :
    PE (X.blk s0 H0 bscope cenv fp) (.Call (.Name x p) [e] [] pos) (tGive X k TT ta fun _ => σ0) := by
  refine ⟨fun pins s σ H Q I h => ?_⟩
  refine wpAny_Call_Name_kw (ld_glob I hg G.hm ?_ hdb)
  refine PySem.W.callWith_K (h₀ := X.base) I.ok.mod.kin G.hk (thn (ha.run pos pins s σ H _ I h) fun us s1 ⟨vs, H1, I1, r, q⟩ => ⟨I1.kIn, ?_⟩) he hpl
  obtain ⟨f, params, body, scope, ds, t, rfl, la, B, q⟩ := q
  obtain ⟨u, rfl, ru⟩ := r.one
  obtain rfl : u = Value.ref f := ru
  have C : CellsAt X σ0 H1 s1.heap := (CellsAt.of I0).un (show Un (frs X.stack) fp H0 H1 s0.heap s1.heap from I1.base) fun y c e z => (hfp c z).2.2.2.2.1 y c e rfl
  have run : codeAny (model X.prog X.w) X.A (.call (.ref g) ⟨[.ref f], []⟩) (CR C8.CX0 X.stack X.prog X.w H1 s1 Q C8.E0) s1 := give_run (X := X) G I1.env0 C hr h9 la B q
  refine wpAny_call (codeAny_mono run fun r sx hq => ?_)
  cases r with
  | error e => exact (show False from hq).elim
  | ok fl =>
    cases fl with
    | ret u => exact I1.after hq
    | next => exact False.elim hq
    | brk => exact False.elim hq
    | cont => exact False.elim hq
/-- [elt for tg in iter if ..] where elt may rest on the state at the comprehension's start -/
theorem pe_lcI {elt tg iter : Expr} {ifs : List Expr} {scope : Scope} {own : List (Str × Nat)} {pos : Pos} {wi : TI} {g : TG} {tt : TT} {te : L2.St → TE} (hc : X.calm = true) (hN : X.N.Nodup) (hi : PI X tg iter wi) (ok : BlkOk X.N X.env.scope scope own)
    (hg : ∀ (s : Shared) (H : Hp) (C : Addr) (cl : List (Str × Addr)) (fp : List Addr), PG (X.blk s H scope (compEnvC scope cl C X.env) fp) tg g) (ht : ∀ (s : Shared) (H : Hp) (C : Addr) (cl : List (Str × Addr)) (fp : List Addr), PTs (X.blk s H scope (compEnvC scope cl C X.env) fp) ifs tt)
    (he : ∀ (pins : List (Addr × Obj)) (σ : L2.St) (s : Shared) (H : Hp) (C : Addr) (cl : List (Str × Addr)) (fp : List Addr), Inv X pins σ H s → (∀ b ∈ fp, FpOk X pins H b) → PE (X.blk s H scope (compEnvC scope cl C X.env) fp) elt (te σ)) (hs : ∀ x, foldedSetIterable iter X.env x = pure x := by intro _; rfl) :
    PE X (.ListComp elt [⟨tg, iter, ifs, 0⟩] scope pos) (fun σ H Q => tLc wi g tt (te σ) (own.map (·.2)) σ H Q) := by
  refine ⟨fun pins s σ H Q I h => ?_⟩
  rw [eval_ListComp]
  have hfree : ∀ y ∈ scope.names, y.2 = .free → ∃ c, X.env.cells.lookup y.1 = some c := fun y hy e => by
    rcases ok.free y hy e with k | k
    · exact I.ok.has _ (.inl k)
    · exact I.ok.has _ (.inr k)
  refine wpAny_comprehension_free (use := none) rfl hs (closure_ok hfree) ok.kind (fun y hy e => by rw [ok.uniq y hy, e])
    (thn (hi.run pins s σ H _ I h) fun xv s1 hx => thn hx fun itv s2 h2 => ?_)
  obtain ⟨it, fp, tn, J, H2, e, I2, T, st2, f2, q⟩ := h2
  subst e
  refine wpAny_newObj_type (newEnv_comp ?_) (by show 0 ≤ sizeLine; decide)
  generalize hD : s2.heap.objs.size = D
  have hDn : H2 D = none := I2.hok.fresh (Nat.le_of_eq hD)
  obtain ⟨W, ⟨m0, w0⟩, turn⟩ := q D hDn
  generalize hs3 : ({ s2 with heap := s2.heap.push { cls := .type "list", data := .seq ([] : List Value).toArray } } : Shared) = s3
  have I3 : Inv X pins σ (upd H2 D (.lst [])) s3 := by
    rw [← hs3]
    refine I2.laid (t' := s2.toks) (fun b o e => Heap.get?_push_of_some _ e) (Nat.le_of_eq hD) ⟨Nat.zero_le _, [], 0, .nil, ?_⟩
    rw [← hD]
    exact Heap.get?_push_size _ rfl
  have h3 : s3.heap = s2.heap.push { cls := .type "list", data := .seq ([] : List Value).toArray } := by rw [← hs3]
  have sz : ∀ b ∈ fp, b < s2.heap.objs.size := fun b hb => by
    obtain ⟨o, e, _⟩ := T.obj _ _ st2 b hb
    exact Heap.lt_size e
  have f3 : ∀ b ∈ fp, FpOk X pins (upd H2 D (.lst [])) b ∧ b < s3.heap.objs.size := fun b hb => by
    have hlt := sz b hb
    refine ⟨⟨?_, (f2 b hb).2⟩, by rw [h3, Heap.size_push]; exact Nat.lt_succ_of_lt hlt⟩
    rw [upd_ne (by rw [← hD]; exact Nat.ne_of_lt hlt)]
    exact (f2 b hb).1
  have st3 : tn 0 s3.heap := T.keep _ _ _ st2 fun b _ o e => by rw [h3]; exact Heap.get?_push_of_some _ e
  have I4 := block_start I3 ok hN f3
  have pg := hg s3 (upd H2 D (.lst [])) s3.heap.objs.size (cellsFrom (s3.heap.objs.size + 1) scope.names (cloFrom X.env.cells scope.names [])) fp
  have pt := ht s3 (upd H2 D (.lst [])) s3.heap.objs.size (cellsFrom (s3.heap.objs.size + 1) scope.names (cloFrom X.env.cells scope.names [])) fp
  have pe := he pins σ s3 (upd H2 D (.lst [])) s3.heap.objs.size (cellsFrom (s3.heap.objs.size + 1) scope.names (cloFrom X.env.cells scope.names [])) fp I3 fun b hb => (f3 b hb).1
  show codeAny _ _ (.compStart (.ListComp elt [⟨tg, iter, ifs, 0⟩] scope pos) 0 (.ref it) (.ref D) (compEnvC scope (cellsFrom (s3.heap.objs.size + 1) scope.names (cloFrom X.env.cells scope.names [])) s3.heap.objs.size X.env)) (compPost (model X.prog X.w) X.A X.xe none (EP X pins σ Q) (.ref D) s3.heap.objs.size) { s3 with heap := pushCells (s3.heap.push { cls := .type "dict", data := .dict #[] }) scope.names }
  have nfp : ∀ b ∈ fp, (upd H2 D (.lst [])) b = none := fun b hb => (f3 b hb).1.1
  generalize hce : compEnvC scope (cellsFrom (s3.heap.objs.size + 1) scope.names (cloFrom X.env.cells scope.names [])) s3.heap.objs.size X.env = ce at I4 pg pt pe ⊢
  have cL : ce.locals = s3.heap.objs.size := by subst hce; rfl
  generalize hH3 : upd H2 D (.lst []) = H3 at I3 I4 pg pt pe w0 nfp f3
  generalize hs4 : ({ s3 with heap := pushCells (s3.heap.push { cls := .type "dict", data := .dict #[] }) scope.names } : Shared) = s4 at I4 ⊢
  have st4 : tn 0 s4.heap := T.keep _ _ _ st3 fun b _ o e => by rw [← hs4]; exact pushCells_keeps _ _ _ _ (Heap.get?_push_of_some _ e)
  have stat : ∀ {σ' : L2.St} {H' : Hp} {s' : Shared}, Inv (X.blk s3 H3 scope ce fp) [] σ' H' s' → (∀ b ∈ fp, H' b = none) → ∀ b ∈ fp, FpOk (X.blk s3 H3 scope ce fp) [] H' b := fun {σ' H' s'} I' hn b hb =>
    ⟨hn b hb, (I'.ok.exf b hb).1, I'.ok.exfs b hb, .inl hb, fun x c e => (I'.ok.exf b hb).2 x c e, fun p hp => absurd (show p ∈ ([] : List (Addr × Obj)) ++ [] from hp) (by simp)⟩
  have loop : codeAny (model X.prog X.w) X.A (.compLoop (.ListComp elt [⟨tg, iter, ifs, 0⟩] scope pos) 0 (.ref it) (.ref D) ce) (compPost (model X.prog X.w) X.A X.xe none (EP X pins σ Q) (.ref D) s3.heap.objs.size) s4 := by
    refine compLoop_any (fun n s' => ∃ i H', Inv (X.blk s3 H3 scope ce fp) [] (wipe σ (own.map (·.2))) H' s' ∧ tn i s'.heap ∧ (∀ b ∈ fp, H' b = none) ∧ W i n H') ?_ m0 ⟨0, H3, I4, st4, nfp, w0⟩
    rintro n s5 ⟨i, H5, I5, st5, n5, w5⟩
    rcases turn i n H5 w5 with ⟨stop, qq⟩ | ⟨go, Nx, hNx, step⟩
    · have td := T.done (X.blk s3 H3 scope ce fp) rfl rfl rfl hc i [] s5 _ H5 (fun _ _ => False) I5 (stat I5 n5) st5 stop
      refine thnF td fun r s6 ⟨hr, I6⟩ => ?_
      subst hr
      have I7 : Inv X pins σ H5 s6 := I3.call' (ch := fp) I6.os I6.base I6.hok I6.bare fun b hb => ⟨(f3 b hb).1.2.2.2.1, (f3 b hb).1.2.1, (f3 b hb).1.2.2.2.2.1, (f3 b hb).1.2.2.2.2.2⟩
      have nC : H5 s3.heap.objs.size = none := by
        have z : H5 ce.locals = none := I6.free
        rw [cL] at z
        exact z
      obtain ⟨m, hn, _⟩ := I6.loc
      have hn : s6.heap.Ns ce.locals m := hn
      rw [cL] at hn
      refine ⟨m, hn, fun h'' sb => ?_⟩
      obtain ⟨f0, f1, f2, f3, f4, f5⟩ := I3.fpOk (Nat.le_refl _) nC
      exact ⟨.ref D, H5, I7.turned (t' := s6.toks) (fun b o hb e => (sb.2 b hb).trans e) f0 f1 f3 f4 f5, rfl, qq⟩
    · have ti := T.item (X.blk s3 H3 scope ce fp) rfl rfl rfl hc i [] s5 _ H5 (fun _ _ => False) I5 (stat I5 n5) st5 go
      refine thnF ti fun r s6 ⟨u, hr, h6⟩ => ?_
      subst hr
      refine thnF h6 fun _ s7 ⟨x, H7, I7, r7, y7, st7, n7⟩ => ?_
      have I7' := I7.pinned (stat I7 n7) (T.obj _ _ st7)
      refine thnF (pg.run _ s7 _ H7 x u _ I7' r7 (step x H7 y7)) fun _ s8 ⟨σ8, H8, I8, hw8, q8⟩ => ?_
      refine thnF (pt.run _ s8 σ8 H8 _ I8 q8) fun b s9 ⟨H9, I9, q9⟩ => ?_
      have fin : ∀ {s' : Shared} {H' : Hp}, Inv (X.blk s3 H3 scope ce fp) ([] ++ pinsAt fp s7.heap) σ8 H' s' → Nx H' → ∃ m, m < n ∧ ∃ i H', Inv (X.blk s3 H3 scope ce fp) [] (wipe σ (own.map (·.2))) H' s' ∧ tn i s'.heap ∧ (∀ b ∈ fp, H' b = none) ∧ W i m H' := fun {s' H'} I' nx => by
        obtain ⟨m', hm, w'⟩ := hNx H' nx
        have pin' : ∀ b ∈ fp, ∀ o, s7.heap.get? b = some o → s'.heap.get? b = some o ∧ H' b = none := fun b hb o e =>
          let z := I'.pin (b, o) (List.mem_append_right _ (List.mem_append_right _ (mem_pinsAt hb e)))
          ⟨z.1, z.2.1⟩
        have hl : (wipe σ (own.map (·.2))).length = σ8.length := by rw [← hw8, wipe_length]
        refine ⟨m', hm, i + 1, H', (I'.unpinned (pins := [])).weak hl (fun j v e => ?_), T.keep _ _ _ st7 fun b hb o e => (pin' b hb o e).1, fun b hb => ?_, w'⟩
        · rw [← hw8] at e
          exact (wipe_some e).1
        · obtain ⟨o, e, _⟩ := T.obj _ _ st7 b hb
          exact (pin' b hb o e).2
      cases b with
      | false =>
        simp only [Bool.false_eq_true, if_false] at q9 ⊢
        exact fin I9 q9
      | true =>
        simp only [if_true] at q9 ⊢
        refine thnF (pe.run _ s9 σ8 H9 _ I9 q9) fun z s10 ⟨yv, H10, I10, r10, acc, hD10, hz10, nx⟩ => ?_
        exact app_ok (X := X.blk s3 H3 scope ce fp) I10 hD10 hz10 r10 fun s11 I11 => fin I11 nx
  exact codeAny_compStart_list loop (T.self X.A 0 _ _ _ st4 loop)
end
end Ru

set_option maxHeartbeats 4000000
/-! a row of lambdas, each told by a def: [f(c) for c in works]; lists of tuples compared -/
namespace Ru
open PySem PySem.Spec PyProof.Rows L2 LamX
section
variable {X : Cx} {k i j : Nat} {TT : (XK → Hp → VK → Prop) → Hp → VK → Prop} {σ : L2.St} {H H0 H1 : Hp} {f : Addr} {xs : List V} {Q : VK}
/-- the lambda at f, told: a tuple of xs -/
def Work (X : Cx) (k : Nat) (TT : (XK → Hp → VK → Prop) → Hp → VK → Prop) (σ : L2.St) (H0 : Hp) (f : Addr) (xs : List V) : Prop :=
  ∃ (params : Arguments) (body : Expr) (scope : Scope) (ds : List V) (t : XK → TE), LamAt X H0 f params body scope ds ∧ LamB X k params body scope ds t ∧
    ∀ (H' : Hp) (Q : VK), Same H0 H' → (∀ p H'', Same H' H'' → H'' p = some (.tup xs) → Q (.ref p) H'') → TT (fun E H' Q' => t E σ H' Q') H' Q
theorem Work.same (w : Work X k TT σ H0 f xs) (s : Same H0 H1) : Work X k TT σ H1 f xs := by
  obtain ⟨pa, bo, sc, ds, t, la, lb, go⟩ := w
  exact ⟨pa, bo, sc, ds, t, la.same s, lb, fun H' Q s' => go H' Q (s.trans s')⟩
/-- a list of tuples -/
def DL (H : Hp) (D : Addr) (rs : List (List V)) : Prop := ∃ ps : List Addr, H D = some (.lst (ps.map V.ref)) ∧ ps.length = rs.length ∧ ∀ (m : Nat) (p : Addr) (r : List V), ps[m]? = some p → rs[m]? = some r → H p = some (.tup r)
theorem DL.same {D : Addr} {rs : List (List V)} (h : DL H D rs) (s : Same H H1) : DL H1 D rs := by
  obtain ⟨ps, h1, h2, h3⟩ := h
  exact ⟨ps, s _ _ h1, h2, fun m p r a b => s _ _ (h3 m p r a b)⟩
theorem lc_works {K : PySem.W.Frag} {vs : List Nat} {a : Addr} {fs : List Addr} {rs : List (List V)} (hv : vs = [i]) (hj : σ[j]? = some (some (.ref a))) (hi : i < σ.length) (hl : SqL K H a (fs.map V.ref)) (ln : fs.length = rs.length) (l1 : fs.length ≤ 1000)
    (wk : ∀ (m : Nat) (f : Addr) (r : List V), fs[m]? = some f → rs[m]? = some r → Work X k TT σ H f r) (go : ∀ D H', Same H H' → DL H' D rs → Q (.ref D) H') :
    tLc (iList K (tVar j)) (gName i) tYes (tGive X k TT (tCons (tVar i) tNil) fun _ => σ) vs σ H Q := by
  subst hv
  refine ⟨_, hj, a, rfl, ⟨_, hl⟩, fun D hD => lc_list (K := K) (a := a) (xs := fs.map V.ref)
    (fun m H' => (∀ b o, b ≠ D → H b = some o → H' b = some o) ∧ ∃ ps : List Addr, H' D = some (.lst (ps.map V.ref)) ∧ ps.length = m ∧ m ≤ fs.length ∧ ∀ (n : Nat) (p : Addr) (r : List V), ps[n]? = some p → rs[n]? = some r → H' p = some (.tup r)) ?_ ?_ ?_ ?_⟩
  · exact ⟨fun b o n e => by rw [upd_ne n]; exact e, [], by rw [upd_same]; rfl, rfl, Nat.zero_le _, fun n p r e => by simp at e⟩
  · rintro m H' hm ⟨fr, _⟩
    exact Same.seq (fun b o e => fr b o (ne_of_none e hD) e) hl
  · rintro m x H' hx ⟨fr, ps, hD', lp, lm, hp⟩
    have sm : Same H H' := fun b o e => fr b o (ne_of_none e hD) e
    have hm : m < fs.length := by
      have := (List.getElem?_eq_some_iff.mp hx).1
      rw [List.length_map] at this
      exact this
    have ef : fs[m]? = some fs[m] := List.getElem?_eq_getElem hm
    have er : rs[m]? = some (rs[m]'(by omega)) := List.getElem?_eq_getElem (by omega)
    rw [List.getElem?_map, ef] at hx
    cases hx
    obtain ⟨pa, bo, sc, ds, t, la, lb, w⟩ := wk m _ _ ef er
    have hw : (wipe σ [i]).length = σ.length := wipe_length σ [i]
    refine ⟨?_, ?_⟩
    · show ((wipe σ []).set i none |>.set i (some (V.ref fs[m]))).set i none = (wipe σ []).set i none
      rw [List.set_set, List.set_set]
    show tGive X k TT (tCons (tVar i) tNil) (fun _ => σ) ((wipe σ [i]).set i (some (V.ref fs[m]))) H' _
    refine ⟨_, List.getElem?_set_self (by rw [hw]; exact hi), _, pa, bo, sc, ds, t, rfl, la.same sm, lb, ?_⟩
    refine w H' _ sm fun p H'' s'' hp'' => ?_
    have hD'' := s'' _ _ hD'
    refine ⟨_, hD'', by rw [List.length_map, lp]; exact Nat.lt_of_lt_of_le hm (Nat.le_trans l1 (by decide)), fun b o n e => by rw [upd_ne n]; exact s'' _ _ (fr b o n e), ps ++ [p], by rw [upd_same, List.map_append]; rfl, by rw [List.length_append, lp]; rfl, hm, fun n q r e1 e2 => ?_⟩
    have npD : ∀ {q : Addr} {r : List V}, H'' q = some (.tup r) → q ≠ D := fun {q r} e => ne_of e hD'' (fun z => nomatch z)
    by_cases hn : n < ps.length
    · rw [List.getElem?_append_left hn] at e1
      have := s'' _ _ (hp n q r e1 e2)
      rw [upd_ne (npD this)]
      exact this
    · rw [List.getElem?_append_right (by omega)] at e1
      have h0 : n - ps.length = 0 := by
        cases hh : n - ps.length with
        | zero => rfl
        | succ z => rw [hh] at e1; simp at e1
      rw [h0] at e1
      cases e1
      have : n = m := by omega
      subst this
      rw [er] at e2
      cases e2
      rw [upd_ne (npD hp'')]
      exact hp''
  · rintro H' ⟨fr, ps, hD', lp, _, hp⟩
    rw [List.length_map] at lp
    exact go D H' (fun b o e => fr b o (ne_of_none e hD) e) ⟨ps, hD', by rw [lp, ln], hp⟩
end
/-! ### promises put together -/
theorem fnUp {P : Program} {w : World} {K : PySem.W.Frag} {mg : Str → Option Value} {base : Heap} {k : Nat} {f : Addr} {fd : FuncData} {ps : List Str} {sp : Sp} (F : FnOk P w K mg base C8.CX0 k f fd ps sp) : FnOk P w K mg base (L2.CX P w) k f fd ps sp :=
  ⟨F.len, fun A outer s H args us vs Q E hr he hb hv hs => codeAny_mono (F.run A outer s H args us vs Q E hr he hb hv hs) fun r s' h => by
    cases r with
    | error e => exact (show False from h).elim
    | ok fl => cases fl <;> exact h⟩
theorem fnOr {P : Program} {w : World} {K : PySem.W.Frag} {mg : Str → Option Value} {base : Heap} {CX : CXT} {k : Nat} {f : Addr} {fd : FuncData} {ps : List Str} {sp sp' : Sp} (F : FnOk P w K mg base CX k f fd ps sp) (G : FnOk P w K mg base CX k f fd ps sp') :
    FnOk P w K mg base CX k f fd ps (fun vs H Q E => sp vs H Q E ∨ sp' vs H Q E) :=
  ⟨fun vs H Q E q => q.elim (F.len vs H Q E) (G.len vs H Q E), fun A outer s H args us vs Q E hr he hb hv hs => hs.elim (F.run A outer s H args us vs Q E hr he hb hv) (G.run A outer s H args us vs Q E hr he hb hv)⟩
/-! ### the comparison of such lists -/
def pdV : V → PyData
  | .str z => .str z
  | .int n => .int n
  | .bl b => .bool b
  | _ => .none
def okV : V → Bool
  | .str _ => true
  | .int _ => true
  | .bl _ => true
  | .non => true
  | _ => false
def pdL (rs : List (List V)) : PyData := .list (rs.map fun r => .tuple (r.map pdV))
section
variable {K : PySem.W.Frag} {H : Hp} {D D2 : Addr} {rs rt : List (List V)} {Q : VK}
theorem dp_flat : ∀ {r : List V}, r.all okV = true → DpAll K H r (r.map pdV)
  | [], _ => .nil
  | v :: r, h => by
    simp only [List.all_cons, Bool.and_eq_true] at h
    refine .cons ?_ (dp_flat h.2)
    cases v <;> first | exact .str _ | exact .int _ | exact .bl _ | exact .non | exact absurd (show false = true from h.1) Bool.false_ne_true
theorem dp_tups : ∀ {ps : List Addr} {rs : List (List V)}, ps.length = rs.length → (∀ (m : Nat) (p : Addr) (r : List V), ps[m]? = some p → rs[m]? = some r → H p = some (.tup r)) → (rs.all fun r => r.all okV) = true → DpAll K H (ps.map V.ref) (rs.map fun r => .tuple (r.map pdV))
  | [], [], _, _, _ => .nil
  | [], _ :: _, e, _, _ => by cases e
  | _ :: _, [], e, _, _ => by cases e
  | p :: ps, r :: rs, e, h, o => by
    simp only [List.all_cons, Bool.and_eq_true] at o
    exact .cons (.tup (SqT.of (h 0 p r rfl rfl)) (dp_flat o.1)) (dp_tups (Nat.succ.inj e) (fun m p' r' a b => h (m + 1) p' r' a b) o.2)
theorem DL.dp (h : DL H D rs) (o : (rs.all fun r => r.all okV) = true) : Dp K H (.ref D) (pdL rs) := by
  obtain ⟨ps, h1, h2, h3⟩ := h
  exact .lst (SqL.of h1) (dp_tups h2 h3 o)
theorem neD_DL (h : DL H D rs) (h2 : DL H D2 rt) (o : (rs.all fun r => r.all okV) = true) (o2 : (rt.all fun r => r.all okV) = true) (sh : SeqAt.shaped (pdL rs) = true) (sh2 : SeqAt.shaped (pdL rt) = true) (q : Q (.bl (!PyData.eqv (pdL rs) (pdL rt))) H) : rNeD K (.ref D) (.ref D2) H Q :=
  ⟨_, _, h.dp o, h2.dp o2, sh, sh2, q⟩
theorem eqD_DL (h : DL H D rs) (h2 : DL H D2 rt) (o : (rs.all fun r => r.all okV) = true) (o2 : (rt.all fun r => r.all okV) = true) (sh : SeqAt.shaped (pdL rs) = true) (sh2 : SeqAt.shaped (pdL rt) = true) (q : Q (.bl (PyData.eqv (pdL rs) (pdL rt))) H) : rEqD K (.ref D) (.ref D2) H Q :=
  ⟨_, _, h.dp o, h2.dp o2, sh, sh2, q⟩
end
end Ru
namespace Ru
open PySem PySem.Spec PyProof.Rows L2 LamX
def pdT (r : List V) : PyData := .tuple (r.map pdV)
theorem neD_tup {K : PySem.W.Frag} {H : Hp} {p q : Addr} {r t : List V} {Q : VK} (hp : H p = some (.tup r)) (hq : H q = some (.tup t)) (o : r.all okV = true) (o2 : t.all okV = true) (sh : SeqAt.shaped (pdT r) = true) (sh2 : SeqAt.shaped (pdT t) = true) (k : Q (.bl (!PyData.eqv (pdT r) (pdT t))) H) : rNeD K (.ref p) (.ref q) H Q :=
  ⟨_, _, .tup (SqT.of hp) (dp_flat o), .tup (SqT.of hq) (dp_flat o2), sh, sh2, k⟩
theorem give_work {X : Cx} {k : Nat} {TT : (XK → Hp → VK → Prop) → Hp → VK → Prop} {σ : L2.St} {H : Hp} {f : Addr} {xs : List V} {Q : VK} (w : Work X k TT σ H f xs) (go : ∀ p H'', Same H H'' → H'' p = some (.tup xs) → Q (.ref p) H'') :
    ∃ (f' : Addr) (params : Arguments) (body : Expr) (scope : Scope) (ds : List V) (t : XK → TE), [V.ref f] = [.ref f'] ∧ LamAt X H f' params body scope ds ∧ LamB X k params body scope ds t ∧ TT (fun E H' Q' => t E σ H' Q') H Q := by
  obtain ⟨pa, bo, sc, ds, t, la, lb, w⟩ := w
  exact ⟨f, pa, bo, sc, ds, t, rfl, la, lb, w H Q (Same.refl _) go⟩
end Ru
/-! ### a list of lambdas that grows -/
namespace Ru
open PySem PySem.Spec PyProof.Rows L2 LamX
/-- all but the lists stay -/
def ExtL (H H' : Hp) : Prop := ∀ b o, H b = some o → (∀ xs, o ≠ .lst xs) → H' b = some o
structure Lm where
  f : Addr
  pa : Arguments
  bo : Expr
  sc : Scope
  ds : List V
section
variable {X : Cx} {T : List (Addr × Str)} {H H' H0 : Hp} {W : Addr} {ls : List Lm}
theorem LamAt.extL {f : Addr} {params : Arguments} {body : Expr} {scope : Scope} {ds : List V} (h : LamAt X H f params body scope ds) (e : ExtL H H') : LamAt X H' f params body scope ds := by
  obtain ⟨c', dV, h1, h2, h3⟩ := h
  refine ⟨c', dV, e _ _ h1 (fun xs z => by unfold LamO at z; cases z), e _ _ h2 (fun xs z => by unfold CodeO at z; cases z), ?_⟩
  rcases h3 with h3 | ⟨h0, T, h3, h4⟩
  · exact .inl h3
  · exact .inr ⟨h0, T, h3, e _ _ h4 fun ps z => nomatch z⟩
theorem tabs_extL (t : Tabs T H) (e : ExtL H H') : Tabs T H' := fun p hp => by
  obtain ⟨ps, h1, h2, h3⟩ := t p hp
  refine ⟨ps, e _ _ h1 (fun _ z => nomatch z), h2, fun pos cv hc => ?_⟩
  obtain ⟨c, e1, e2⟩ := h3 pos cv hc
  exact ⟨c, e1, e _ _ e2 (fun xs z => by unfold CodeO at z; cases z)⟩
theorem extL_upd {xs : List V} {o : HO} (hW : H W = some (.lst xs)) : ExtL H (upd H W o) := fun b u e n => by
  rw [upd_ne fun z => by rw [z, hW] at e; exact n _ (Option.some.inj e).symm]; exact e
/-- the list at W holds the lambdas ls; what stood at the start (H0) stands -/
structure WS (X : Cx) (T : List (Addr × Str)) (H0 H : Hp) (W : Addr) (ls : List Lm) : Prop where
  ext : ExtN H0 H
  off : ∀ b u, H0 b = some u → (∀ ps, u ≠ .tbl ps) → b ≠ W
  tab : Tabs T H
  at_ : H W = some (.lst (ls.map fun l => V.ref l.f))
  lam : ∀ l ∈ ls, LamAt X H l.f l.pa l.bo l.sc l.ds
theorem WS.start (e : ExtN H0 H) (t : Tabs T H) (hl : ∀ l ∈ ls, LamAt X H l.f l.pa l.bo l.sc l.ds) (hW : H W = none) : WS X T H0 (upd H W (.lst (ls.map fun l => V.ref l.f))) W ls where
  ext := e.trans (ExtN.of (sameU hW))
  off := fun b u h n => ne_of_none (e b u h n) hW
  tab := t.ext (sameU hW)
  at_ := upd_same
  lam := fun l h => (hl l h).same (sameU hW)
theorem WS.more {ms : List Lm} (w : WS X T H0 H W ls) (e : ExtN H H') (t : Tabs T H') (hl : ∀ l ∈ ms, LamAt X H' l.f l.pa l.bo l.sc l.ds) : WS X T H0 (upd H' W (.lst ((ls ++ ms).map fun l => V.ref l.f))) W (ls ++ ms) := by
  have hW := e _ _ w.at_ (fun _ z => nomatch z)
  have x := extL_upd (o := .lst ((ls ++ ms).map fun l => V.ref l.f)) hW
  refine ⟨fun b u h n => ?_, w.off, tabs_extL t x, upd_same, fun l h => ?_⟩
  · rw [upd_ne (w.off b u h n)]
    exact e _ _ (w.ext b u h n) n
  · rcases List.mem_append.mp h with h | h
    · exact ((w.lam l h).ext e).extL x
    · exact (hl l h).extL x
theorem WS.same {ms : List Lm} (w : WS X T H0 H W ls) (s : Same H H') : WS X T H0 H' W ls := ⟨w.ext.trans (ExtN.of s), w.off, w.tab.ext s, s _ _ w.at_, fun l h => (w.lam l h).same s⟩
theorem WS.get (w : WS X T H0 H W ls) (n : Nat) {f : Addr} {pa : Arguments} {bo : Expr} {sc : Scope} {ds : List V} (h : ls[n]? = some ⟨f, pa, bo, sc, ds⟩) : LamAt X H f pa bo sc ds := w.lam _ (List.mem_of_getElem? h)
variable {K : PySem.W.Frag} {j : Nat} {σ : L2.St} {D : Ends}
theorem ws_one {pa : Arguments} {bo : Expr} {sc : Scope} {ds : List V} {Q : VK} (t : Tabs T H0) (k : ∀ W H f, WS X T H0 H W [⟨f, pa, bo, sc, ds⟩] → Q (.ref W) H) : tLst (tCons (tLamV T X pa bo sc ds) tNil) σ H0 Q :=
  ⟨t, fun f H1 e1 t1 _ la => ⟨by show 1 ≤ sizeLine; decide, fun W nW => k W _ f (.start (ls := [⟨f, pa, bo, sc, ds⟩]) e1 t1 (fun l h => by rcases List.mem_singleton.mp h with rfl; exact la) nW)⟩⟩
theorem ws_two {pa pa2 : Arguments} {bo bo2 : Expr} {sc sc2 : Scope} {ds ds2 : List V} {Q : VK} (t : Tabs T H0) (k : ∀ W H f f2, WS X T H0 H W [⟨f, pa, bo, sc, ds⟩, ⟨f2, pa2, bo2, sc2, ds2⟩] → Q (.ref W) H) : tLst (tCons (tLamV T X pa bo sc ds) (tCons (tLamV T X pa2 bo2 sc2 ds2) tNil)) σ H0 Q :=
  ⟨t, fun f H1 e1 t1 _ la => ⟨t1, fun f2 H2 e2 t2 _ la2 => ⟨by show 2 ≤ sizeLine; decide, fun W nW => k W _ f f2 (.start (ls := [⟨f, pa, bo, sc, ds⟩, ⟨f2, pa2, bo2, sc2, ds2⟩]) (e1.trans e2) t2 (fun l h => by
    rcases List.mem_cons.mp h with rfl | h
    · exact la.ext e2
    · rcases List.mem_singleton.mp h with rfl; exact la2) nW)⟩⟩⟩
theorem ws_three {pa pa2 pa3 : Arguments} {bo bo2 bo3 : Expr} {sc sc2 sc3 : Scope} {ds ds2 ds3 : List V} {Q : VK} (t : Tabs T H0) (k : ∀ W H f f2 f3, WS X T H0 H W [⟨f, pa, bo, sc, ds⟩, ⟨f2, pa2, bo2, sc2, ds2⟩, ⟨f3, pa3, bo3, sc3, ds3⟩] → Q (.ref W) H) : tLst (tCons (tLamV T X pa bo sc ds) (tCons (tLamV T X pa2 bo2 sc2 ds2) (tCons (tLamV T X pa3 bo3 sc3 ds3) tNil))) σ H0 Q :=
  ⟨t, fun f H1 e1 t1 _ la => ⟨t1, fun f2 H2 e2 t2 _ la2 => ⟨t2, fun f3 H3 e3 t3 _ la3 => ⟨by show 3 ≤ sizeLine; decide, fun W nW => k W _ f f2 f3 (.start (ls := [⟨f, pa, bo, sc, ds⟩, ⟨f2, pa2, bo2, sc2, ds2⟩, ⟨f3, pa3, bo3, sc3, ds3⟩]) ((e1.trans e2).trans e3) t3 (fun l h => by
    rcases List.mem_cons.mp h with rfl | h
    · exact la.ext (e2.trans e3)
    · rcases List.mem_cons.mp h with rfl | h
      · exact la2.ext e3
      · rcases List.mem_singleton.mp h with rfl; exact la3) nW)⟩⟩⟩⟩
theorem ws_append {pa : Arguments} {bo : Expr} {sc : Scope} {ds : List V} (w : WS X T H0 H W ls) (hj : σ[j]? = some (some (.ref W))) (hz : ls.length ≤ 1000) (k : ∀ H' f, WS X T H0 H' W (ls ++ [⟨f, pa, bo, sc, ds⟩]) → D.nx σ H') : tDrop (tBM K "list" rAppend (tVar j) (tCons (tLamV T X pa bo sc ds) tNil)) D σ H :=
  ⟨_, hj, .inl ⟨rfl, _, SqL.of w.at_⟩, w.tab, fun f H1 e1 t1 _ la => ⟨W, _, _, rfl, rfl, e1 _ _ w.at_ (fun _ z => nomatch z), by rw [List.length_map]; exact Nat.lt_of_le_of_lt hz (by decide), by
    have h := w.more (ms := [⟨f, pa, bo, sc, ds⟩]) e1 t1 (fun l h => by rcases List.mem_singleton.mp h with rfl; exact la)
    rw [List.map_append] at h
    exact k _ f h⟩⟩
theorem ws_extend2 {pa pa2 : Arguments} {bo bo2 : Expr} {sc sc2 : Scope} {ds ds2 : List V} (w : WS X T H0 H W ls) (hj : σ[j]? = some (some (.ref W))) (hz : ls.length ≤ 1000) (k : ∀ H' f f2, WS X T H0 H' W (ls ++ [⟨f, pa, bo, sc, ds⟩, ⟨f2, pa2, bo2, sc2, ds2⟩]) → D.nx σ H') :
    tDrop (tBM K "list" rExtend (tVar j) (tCons (tLst (tCons (tLamV T X pa bo sc ds) (tCons (tLamV T X pa2 bo2 sc2 ds2) tNil))) tNil)) D σ H :=
  ⟨_, hj, .inl ⟨rfl, _, SqL.of w.at_⟩, w.tab, fun f H1 e1 t1 _ la => ⟨t1, fun f2 H2 e2 t2 _ la2 => ⟨by show 2 ≤ sizeLine; decide, fun m nm => by
    have hW := e2 _ _ (e1 _ _ w.at_ (fun _ z => nomatch z)) (fun _ z => nomatch z)
    have s := sameU (o := .lst [V.ref f, V.ref f2]) nm
    refine ⟨W, m, _, _, rfl, rfl, s _ _ hW, upd_same, by rw [List.length_map]; show ls.length + 2 ≤ sizeLine; exact Nat.le_trans (Nat.add_le_add_right hz 2) (by decide), ?_⟩
    have h := w.more (ms := [⟨f, pa, bo, sc, ds⟩, ⟨f2, pa2, bo2, sc2, ds2⟩]) ((e1.trans e2).trans (ExtN.of s)) (t2.ext s) (fun l h => by
      rcases List.mem_cons.mp h with rfl | h
      · exact (la.ext e2).same s
      · rcases List.mem_singleton.mp h with rfl; exact la2.same s)
    rw [List.map_append] at h
    exact k _ f f2 h⟩⟩⟩
end
end Ru

namespace W6
open PySem PySem.Spec PyProof.Rows L2 Ru StX
def Fl (u v : V) : Prop := u = v ∧ ((∃ n : Int, u = .int n) ∨ (∃ b : Bool, u = .bl b) ∨ (∃ s : Str, u = .str s) ∨ u = .non)
def Sq1 (R : V → V → Hp → Prop) (H : Hp) (xs ys : List V) : Prop := xs.length = ys.length ∧ xs.length ≤ 1000000 ∧ ∀ (i : Nat) (u v : V), xs[i]? = some u → ys[i]? = some v → R u v H
def AS (R : V → V → Hp → Prop) (u v : V) (H : Hp) : Prop := Fl u v ∨ ∃ (x y : Addr) (xs ys : List V), u = .ref x ∧ v = .ref y ∧ Sq1 R H xs ys ∧ ((H x = some (.lst xs) ∧ H y = some (.lst ys)) ∨ (H x = some (.tup xs) ∧ H y = some (.tup ys)))
def R0 (u v : V) (_ : Hp) : Prop := Fl u v
def R1 : V → V → Hp → Prop := AS R0
def R2 : V → V → Hp → Prop := AS R1
theorem Sq1.same {R : V → V → Hp → Prop} (m : ∀ u v H H', R u v H → Same H H' → R u v H') {H H' : Hp} {xs ys : List V} (h : Sq1 R H xs ys) (s : Same H H') : Sq1 R H' xs ys := ⟨h.1, h.2.1, fun i u v hu hv => m _ _ _ _ (h.2.2 i u v hu hv) s⟩
theorem AS.same {R : V → V → Hp → Prop} (m : ∀ u v H H', R u v H → Same H H' → R u v H') (u v : V) (H H' : Hp) (h : AS R u v H) (s : Same H H') : AS R u v H' := by
  rcases h with h | ⟨x, y, xs, ys, e1, e2, q, h⟩
  · exact .inl h
  · refine .inr ⟨x, y, xs, ys, e1, e2, q.same m s, ?_⟩
    rcases h with ⟨h1, h2⟩ | ⟨h1, h2⟩
    · exact .inl ⟨s _ _ h1, s _ _ h2⟩
    · exact .inr ⟨s _ _ h1, s _ _ h2⟩
theorem R0.mono : ∀ u v H H', R0 u v H → Same H H' → R0 u v H' := fun _ _ _ _ h _ => h
theorem R1.mono : ∀ u v H H', R1 u v H → Same H H' → R1 u v H' := AS.same R0.mono
def spAk (R : V → V → Hp → Prop) : Sp := fun vs H Q _ => ∃ u v, vs = [u, v] ∧ R u v H ∧ ∀ H', Same H H' → Q (.bl true) H'
section
variable {P : Program} {w : World} {K : PySem.W.Frag} {mg : Str → Option Value} {base : Heap} {a : Ad}
theorem kitN' {s : String} (h1 : kitB s "tuple" = some false) (h2 : kitB s "list" = some false) : PySem.W.kitAny K (.type s) [.type "tuple", .type "list"] = some false := by
  unfold PySem.W.kitAny
  rw [kit_ty h1]
  unfold PySem.W.kitAny
  rw [kit_ty h2]
  try rfl
theorem kitTup' : PySem.W.kitAny K (.type "tuple") [.type "tuple", .type "list"] = some true := by
  unfold PySem.W.kitAny
  rw [kit_ty (r := true) (by decide +kernel)]
  try rfl
theorem kitLst' : PySem.W.kitAny K (.type "list") [.type "tuple", .type "list"] = some true := by
  unfold PySem.W.kitAny
  rw [kit_ty (r := false) (by decide +kernel)]
  unfold PySem.W.kitAny
  rw [kit_ty (r := true) (by decide +kernel)]
  try rfl
theorem ndF {x y : V} (h : x = y) : (!decide (x = y)) = false := by rw [dT h]; rfl
theorem sameF (T : Txt K mg a) : FnOk P w K mg base CX0 1 a.f__law_same a.d__law_same ["_law_result", "_law_expected"] (spAk R0) := by
  refine T.F__law_same.ok sc__law_same (fun vs H Q E h => ?_) (fun cdv A outer s H vs Q E hr h => ?_)
  · obtain ⟨u, v, rfl, _⟩ := h
    rfl
  · obtain ⟨u, v, rfl, f, k⟩ := h
    revert f
    intro f
    obtain ⟨rfl, ⟨c, rfl⟩ | ⟨b, rfl⟩ | ⟨s0, rfl⟩ | rfl⟩ := f
    · refine ⟨_, (pss_cons (ps_if (pt_val (pe_callB call_isiT (by rfl) T.z_isinstance (by decide +kernel) (pa_cons (pv 1) (pa_cons (pe_tup (pa_cons (pe_bltn (v := .ty "tuple") (by rfl) T.z_tuple (by decide +kernel) rfl) (pa_cons (pe_bltn (v := .ty "list") (by rfl) T.z_list (by decide +kernel) rfl) pa_nil))) pa_nil)))) (pss_cons ps_never (pss_cons ps_never (pss_one ps_never))) pss_nil)
      (pss_cons (ps_if (pt_cmpR op_ne (pe_callB call_isi (by rfl) T.z_isinstance (by decide +kernel) (pa_cons (pv 0) (pa_cons (pe_bltn (v := .ty "bool") (by rfl) T.z_bool (by decide +kernel) rfl) pa_nil))) (pe_callB call_isi (by rfl) T.z_isinstance (by decide +kernel) (pa_cons (pv 1) (pa_cons (pe_bltn (v := .ty "bool") (by rfl) T.z_bool (by decide +kernel) rfl) pa_nil))) (nomark _)) (pss_one (ps_ret pe_bl)) pss_nil)
      (pss_one (ps_ret (pe_and (pe_cmpR op_eq (pe_callB call_isi (by rfl) T.z_isinstance (by decide +kernel) (pa_cons (pv 0) (pa_cons (pe_bltn (v := .ty "int") (by rfl) T.z_int (by decide +kernel) rfl) pa_nil))) (pe_callB call_isi (by rfl) T.z_isinstance (by decide +kernel) (pa_cons (pv 1) (pa_cons (pe_bltn (v := .ty "int") (by rfl) T.z_int (by decide +kernel) rfl) pa_nil))) (nomark _)) (pe_one (pe_cmpR op_eq (pv 0) (pv 1) (nomark _)))))))), ?_⟩
      refine ⟨_, rfl, by show 2 ≤ sizeLine; decide, fun tp ntp => ?_⟩
      have s1 := same_upd (o := .tup [.ty "tuple", .ty "list"]) ntp
      refine ⟨.int c, tp, [.ty "tuple", .ty "list"], .type "int", [.type "tuple", .type "list"], false, rfl, upd_same, .cons (.ty _) (.cons (.ty _) .nil), .base (.int c), kitN' (by decide +kernel) (by decide +kernel), _, rfl, ?_⟩
      refine ifF rfl ?_
      refine ⟨_, rfl, .int c, .ty "bool", .type "int", .type "bool", false, rfl, .ty _, .base (.int c), kit_ty (by decide +kernel), ?_⟩
      refine ⟨_, rfl, .int c, .ty "bool", .type "int", .type "bool", false, rfl, .ty _, .base (.int c), kit_ty (by decide +kernel), rfl, _, rfl, ?_⟩
      refine ifF (ndF rfl) ?_
      refine ⟨_, rfl, .int c, .ty "int", .type "int", .type "int", true, rfl, .ty _, .base (.int c), kit_ty (by decide +kernel), ?_⟩
      refine ⟨_, rfl, .int c, .ty "int", .type "int", .type "int", true, rfl, .ty _, .base (.int c), kit_ty (by decide +kernel), rfl, true, congrArg V.bl (dT rfl), ?_⟩
      refine ifT rfl ?_
      refine ⟨_, rfl, _, rfl, rfl, ?_⟩
      rw [show (decide (V.int c = V.int c)) = true from decide_eq_true rfl]
      exact k _ s1
    · refine ⟨_, (pss_cons (ps_if (pt_val (pe_callB call_isiT (by rfl) T.z_isinstance (by decide +kernel) (pa_cons (pv 1) (pa_cons (pe_tup (pa_cons (pe_bltn (v := .ty "tuple") (by rfl) T.z_tuple (by decide +kernel) rfl) (pa_cons (pe_bltn (v := .ty "list") (by rfl) T.z_list (by decide +kernel) rfl) pa_nil))) pa_nil)))) (pss_cons ps_never (pss_cons ps_never (pss_one ps_never))) pss_nil)
      (pss_cons (ps_if (pt_cmpR op_ne (pe_callB call_isi (by rfl) T.z_isinstance (by decide +kernel) (pa_cons (pv 0) (pa_cons (pe_bltn (v := .ty "bool") (by rfl) T.z_bool (by decide +kernel) rfl) pa_nil))) (pe_callB call_isi (by rfl) T.z_isinstance (by decide +kernel) (pa_cons (pv 1) (pa_cons (pe_bltn (v := .ty "bool") (by rfl) T.z_bool (by decide +kernel) rfl) pa_nil))) (nomark _)) (pss_one (ps_ret pe_bl)) pss_nil)
      (pss_one (ps_ret (pe_and (pe_cmpR op_eq (pe_callB call_isi (by rfl) T.z_isinstance (by decide +kernel) (pa_cons (pv 0) (pa_cons (pe_bltn (v := .ty "int") (by rfl) T.z_int (by decide +kernel) rfl) pa_nil))) (pe_callB call_isi (by rfl) T.z_isinstance (by decide +kernel) (pa_cons (pv 1) (pa_cons (pe_bltn (v := .ty "int") (by rfl) T.z_int (by decide +kernel) rfl) pa_nil))) (nomark _)) (pe_one (pe_cmpR op_eq (pv 0) (pv 1) (nomark _)))))))), ?_⟩
      refine ⟨_, rfl, by show 2 ≤ sizeLine; decide, fun tp ntp => ?_⟩
      have s1 := same_upd (o := .tup [.ty "tuple", .ty "list"]) ntp
      refine ⟨.bl b, tp, [.ty "tuple", .ty "list"], .type "bool", [.type "tuple", .type "list"], false, rfl, upd_same, .cons (.ty _) (.cons (.ty _) .nil), .base (.bl b), kitN' (by decide +kernel) (by decide +kernel), _, rfl, ?_⟩
      refine ifF rfl ?_
      refine ⟨_, rfl, .bl b, .ty "bool", .type "bool", .type "bool", true, rfl, .ty _, .base (.bl b), kit_ty (by decide +kernel), ?_⟩
      refine ⟨_, rfl, .bl b, .ty "bool", .type "bool", .type "bool", true, rfl, .ty _, .base (.bl b), kit_ty (by decide +kernel), rfl, _, rfl, ?_⟩
      refine ifF (ndF rfl) ?_
      refine ⟨_, rfl, .bl b, .ty "int", .type "bool", .type "int", true, rfl, .ty _, .base (.bl b), kit_ty (by decide +kernel), ?_⟩
      refine ⟨_, rfl, .bl b, .ty "int", .type "bool", .type "int", true, rfl, .ty _, .base (.bl b), kit_ty (by decide +kernel), rfl, true, congrArg V.bl (dT rfl), ?_⟩
      refine ifT rfl ?_
      refine ⟨_, rfl, _, rfl, rfl, ?_⟩
      rw [show (decide (V.bl b = V.bl b)) = true from decide_eq_true rfl]
      exact k _ s1
    · refine ⟨_, (pss_cons (ps_if (pt_val (pe_callB call_isiT (by rfl) T.z_isinstance (by decide +kernel) (pa_cons (pv 1) (pa_cons (pe_tup (pa_cons (pe_bltn (v := .ty "tuple") (by rfl) T.z_tuple (by decide +kernel) rfl) (pa_cons (pe_bltn (v := .ty "list") (by rfl) T.z_list (by decide +kernel) rfl) pa_nil))) pa_nil)))) (pss_cons ps_never (pss_cons ps_never (pss_one ps_never))) pss_nil)
      (pss_cons (ps_if (pt_cmpR op_ne (pe_callB call_isi (by rfl) T.z_isinstance (by decide +kernel) (pa_cons (pv 0) (pa_cons (pe_bltn (v := .ty "bool") (by rfl) T.z_bool (by decide +kernel) rfl) pa_nil))) (pe_callB call_isi (by rfl) T.z_isinstance (by decide +kernel) (pa_cons (pv 1) (pa_cons (pe_bltn (v := .ty "bool") (by rfl) T.z_bool (by decide +kernel) rfl) pa_nil))) (nomark _)) (pss_one (ps_ret pe_bl)) pss_nil)
      (pss_one (ps_ret (pe_and (pe_cmpR op_eq (pe_callB call_isi (by rfl) T.z_isinstance (by decide +kernel) (pa_cons (pv 0) (pa_cons (pe_bltn (v := .ty "int") (by rfl) T.z_int (by decide +kernel) rfl) pa_nil))) (pe_callB call_isi (by rfl) T.z_isinstance (by decide +kernel) (pa_cons (pv 1) (pa_cons (pe_bltn (v := .ty "int") (by rfl) T.z_int (by decide +kernel) rfl) pa_nil))) (nomark _)) (pe_one (pe_cmpR op_eq (pv 0) (pv 1) (nomark _)))))))), ?_⟩
      refine ⟨_, rfl, by show 2 ≤ sizeLine; decide, fun tp ntp => ?_⟩
      have s1 := same_upd (o := .tup [.ty "tuple", .ty "list"]) ntp
      refine ⟨.str s0, tp, [.ty "tuple", .ty "list"], .type "str", [.type "tuple", .type "list"], false, rfl, upd_same, .cons (.ty _) (.cons (.ty _) .nil), .base (.str s0), kitN' (by decide +kernel) (by decide +kernel), _, rfl, ?_⟩
      refine ifF rfl ?_
      refine ⟨_, rfl, .str s0, .ty "bool", .type "str", .type "bool", false, rfl, .ty _, .base (.str s0), kit_ty (by decide +kernel), ?_⟩
      refine ⟨_, rfl, .str s0, .ty "bool", .type "str", .type "bool", false, rfl, .ty _, .base (.str s0), kit_ty (by decide +kernel), rfl, _, rfl, ?_⟩
      refine ifF (ndF rfl) ?_
      refine ⟨_, rfl, .str s0, .ty "int", .type "str", .type "int", false, rfl, .ty _, .base (.str s0), kit_ty (by decide +kernel), ?_⟩
      refine ⟨_, rfl, .str s0, .ty "int", .type "str", .type "int", false, rfl, .ty _, .base (.str s0), kit_ty (by decide +kernel), rfl, true, congrArg V.bl (dT rfl), ?_⟩
      refine ifT rfl ?_
      refine ⟨_, rfl, _, rfl, rfl, ?_⟩
      rw [show (decide (V.str s0 = V.str s0)) = true from decide_eq_true rfl]
      exact k _ s1
    · refine ⟨_, (pss_cons (ps_if (pt_val (pe_callB call_isiT (by rfl) T.z_isinstance (by decide +kernel) (pa_cons (pv 1) (pa_cons (pe_tup (pa_cons (pe_bltn (v := .ty "tuple") (by rfl) T.z_tuple (by decide +kernel) rfl) (pa_cons (pe_bltn (v := .ty "list") (by rfl) T.z_list (by decide +kernel) rfl) pa_nil))) pa_nil)))) (pss_cons ps_never (pss_cons ps_never (pss_one ps_never))) pss_nil)
      (pss_cons (ps_if (pt_cmpR op_ne (pe_callB call_isi (by rfl) T.z_isinstance (by decide +kernel) (pa_cons (pv 0) (pa_cons (pe_bltn (v := .ty "bool") (by rfl) T.z_bool (by decide +kernel) rfl) pa_nil))) (pe_callB call_isi (by rfl) T.z_isinstance (by decide +kernel) (pa_cons (pv 1) (pa_cons (pe_bltn (v := .ty "bool") (by rfl) T.z_bool (by decide +kernel) rfl) pa_nil))) (nomark _)) (pss_one (ps_ret pe_bl)) pss_nil)
      (pss_one (ps_ret (pe_and (pe_cmpR op_eq (pe_callB call_isi (by rfl) T.z_isinstance (by decide +kernel) (pa_cons (pv 0) (pa_cons (pe_bltn (v := .ty "int") (by rfl) T.z_int (by decide +kernel) rfl) pa_nil))) (pe_callB call_isi (by rfl) T.z_isinstance (by decide +kernel) (pa_cons (pv 1) (pa_cons (pe_bltn (v := .ty "int") (by rfl) T.z_int (by decide +kernel) rfl) pa_nil))) (nomark _)) (pe_one (pe_cmpR op_eq (pv 0) (pv 1) (nomark _)))))))), ?_⟩
      refine ⟨_, rfl, by show 2 ≤ sizeLine; decide, fun tp ntp => ?_⟩
      have s1 := same_upd (o := .tup [.ty "tuple", .ty "list"]) ntp
      refine ⟨.non, tp, [.ty "tuple", .ty "list"], .type "NoneType", [.type "tuple", .type "list"], false, rfl, upd_same, .cons (.ty _) (.cons (.ty _) .nil), .base .non, kitN' (by decide +kernel) (by decide +kernel), _, rfl, ?_⟩
      refine ifF rfl ?_
      refine ⟨_, rfl, .non, .ty "bool", .type "NoneType", .type "bool", false, rfl, .ty _, .base .non, kit_ty (by decide +kernel), ?_⟩
      refine ⟨_, rfl, .non, .ty "bool", .type "NoneType", .type "bool", false, rfl, .ty _, .base .non, kit_ty (by decide +kernel), rfl, _, rfl, ?_⟩
      refine ifF (ndF rfl) ?_
      refine ⟨_, rfl, .non, .ty "int", .type "NoneType", .type "int", false, rfl, .ty _, .base .non, kit_ty (by decide +kernel), ?_⟩
      refine ⟨_, rfl, .non, .ty "int", .type "NoneType", .type "int", false, rfl, .ty _, .base .non, kit_ty (by decide +kernel), rfl, true, congrArg V.bl (dT rfl), ?_⟩
      refine ifT rfl ?_
      refine ⟨_, rfl, _, rfl, rfl, ?_⟩
      rw [show (decide (V.non = V.non)) = true from decide_eq_true rfl]
      exact k _ s1
def spSq (R : V → V → Hp → Prop) : Sp := fun vs H Q _ => ∃ (x y : Addr) (xs ys : List V), vs = [.ref x, .ref y] ∧ Sq1 R H xs ys ∧ ((H x = some (.lst xs) ∧ H y = some (.lst ys)) ∨ (H x = some (.tup xs) ∧ H y = some (.tup ys))) ∧ ∀ H', Same H H' → Q (.bl true) H'
set_option maxHeartbeats 0 in
theorem sameQ {R : V → V → Hp → Prop} {k : Nat} (T : Txt K mg a) (m : ∀ u v H H', R u v H → Same H H' → R u v H') (G__law_same : FnOk P w K mg base CX0 k a.f__law_same a.d__law_same ["_law_result", "_law_expected"] (spAk R)) : FnOk P w K mg base CX0 (k + 1) a.f__law_same a.d__law_same ["_law_result", "_law_expected"] (spSq R) := by
  refine T.F__law_same.ok sc__law_same (fun vs H Q E h => ?_) (fun cdv A outer s H vs Q E hr h => ?_)
  · obtain ⟨x, y, xs, ys, rfl, _⟩ := h
    rfl
  · obtain ⟨x, y, xs, ys, rfl, sq, hxy, k⟩ := h
    have lxy := sq.1
    have lle := sq.2.1
    rcases hxy with ⟨hx, hy⟩ | ⟨hx, hy⟩
    · refine ⟨_, (pss_cons (ps_if (pt_val (pe_callB call_isiT (by rfl) T.z_isinstance (by decide +kernel) (pa_cons (pv 1) (pa_cons (pe_tup (pa_cons (pe_bltn (v := .ty "tuple") (by rfl) T.z_tuple (by decide +kernel) rfl) (pa_cons (pe_bltn (v := .ty "list") (by rfl) T.z_list (by decide +kernel) rfl) pa_nil))) pa_nil)))) (pss_cons (ps_if (PW.pt (pw_or (pt_not (pt_val (pe_callB call_isiT (by rfl) T.z_isinstance (by decide +kernel) (pa_cons (pv 0) (pa_cons (pe_tup (pa_cons (pe_bltn (v := .ty "tuple") (by rfl) T.z_tuple (by decide +kernel) rfl) (pa_cons (pe_bltn (v := .ty "list") (by rfl) T.z_list (by decide +kernel) rfl) pa_nil))) pa_nil))))) (pw_or1 (pt_cmpR op_ne (pe_callB call_isi (by rfl) T.z_isinstance (by decide +kernel) (pa_cons (pv 0) (pa_cons (pe_bltn (v := .ty "list") (by rfl) T.z_list (by decide +kernel) rfl) pa_nil))) (pe_callB call_isi (by rfl) T.z_isinstance (by decide +kernel) (pa_cons (pv 1) (pa_cons (pe_bltn (v := .ty "list") (by rfl) T.z_list (by decide +kernel) rfl) pa_nil))) (nomark _))))) (pss_one (ps_ret pe_bl)) pss_nil)
      (pss_cons (ps_if (pt_cmpR op_ne (pe_callB call_len_seq (by rfl) T.z_len PySem.boot_len (pa_cons (pv 0) pa_nil)) (pe_callB call_len_seq (by rfl) T.z_len PySem.boot_len (pa_cons (pv 1) pa_nil)) (nomark _)) (pss_one (ps_ret pe_bl)) pss_nil)
      (pss_one (ps_ret (pe_cmpR (op_eqD hr.units) (pe_lc (own := [("_law_k", 2)]) (g := gName 2) rfl sc__law_same.nd (pi_range1 (by rfl) T.z_range (pa_cons (pe_callB call_len_seq (by rfl) T.z_len PySem.boot_len (pa_cons (pv 1) pa_nil)) pa_nil)) (blkOk_by (own := [("_law_k", 2)]) (N := ["_law_result", "_law_expected", "_law_k"]) (sc := (defScope s__law_same)) (by decide +kernel)) (fun _ _ _ _ _ => pg_name (i := 2) sc__law_same.nd rfl (Or.inl rfl)) (fun _ _ _ _ _ => pts_one (pt_not (pt_val (pe_call G__law_same (hr.mono (Nat.le_refl _)) (by rfl) T.mg__law_same T.F__law_same.kp (b__law_same T) .nil pass0 (pa_cons (pe_ix (show IxR _ (rIxL K) from ix_list) (pv 0) (pv 2) (fun _ _ => rfl)) (pa_cons (pe_ix (show IxR _ (rIxL K) from ix_list) (pv 1) (pv 2) (fun _ _ => rfl)) pa_nil)))))) (fun _ _ _ _ _ => (pv 2))) (pe_lst pa_nil) (nomark _)))))) pss_nil)
      (pss_cons (ps_if (pt_cmpR op_ne (pe_callB call_isi (by rfl) T.z_isinstance (by decide +kernel) (pa_cons (pv 0) (pa_cons (pe_bltn (v := .ty "bool") (by rfl) T.z_bool (by decide +kernel) rfl) pa_nil))) (pe_callB call_isi (by rfl) T.z_isinstance (by decide +kernel) (pa_cons (pv 1) (pa_cons (pe_bltn (v := .ty "bool") (by rfl) T.z_bool (by decide +kernel) rfl) pa_nil))) (nomark _)) (pss_one (ps_ret pe_bl)) pss_nil)
      (pss_one (ps_ret (pe_and (pe_cmpR op_eq (pe_callB call_isi (by rfl) T.z_isinstance (by decide +kernel) (pa_cons (pv 0) (pa_cons (pe_bltn (v := .ty "int") (by rfl) T.z_int (by decide +kernel) rfl) pa_nil))) (pe_callB call_isi (by rfl) T.z_isinstance (by decide +kernel) (pa_cons (pv 1) (pa_cons (pe_bltn (v := .ty "int") (by rfl) T.z_int (by decide +kernel) rfl) pa_nil))) (nomark _)) (pe_one (pe_cmpR op_eq (pv 0) (pv 1) (nomark _)))))))), ?_⟩
      refine ⟨_, rfl, by show 2 ≤ sizeLine; decide, fun tp ntp => ?_⟩
      have s1 := same_upd (o := .tup [.ty "tuple", .ty "list"]) ntp
      refine ⟨.ref y, tp, [.ty "tuple", .ty "list"], .type "list", [.type "tuple", .type "list"], true, rfl, upd_same, .cons (.ty _) (.cons (.ty _) .nil), .base (.lst (s1 _ _ hy)), kitLst', _, rfl, ?_⟩
      refine ifT rfl ?_
      refine ⟨_, rfl, by show 2 ≤ sizeLine; decide, fun tp2 ntp2 => ?_⟩
      have s2 := same_upd (o := .tup [.ty "tuple", .ty "list"]) ntp2
      have s12 := s1.trans s2
      refine ⟨.ref x, tp2, [.ty "tuple", .ty "list"], .type "list", [.type "tuple", .type "list"], true, rfl, upd_same, .cons (.ty _) (.cons (.ty _) .nil), .base (.lst (s12 _ _ hx)), kitLst', ?_⟩
      refine ⟨_, rfl, ?_⟩
      refine ifF rfl ?_
      refine ⟨_, rfl, .ref x, .ty "list", .type "list", .type "list", true, rfl, .ty _, .base (.lst (s12 _ _ hx)), kit_ty (by decide +kernel), _, rfl, .ref y, .ty "list", .type "list", .type "list", true, rfl, .ty _, .base (.lst (s12 _ _ hy)), kit_ty (by decide +kernel), rfl, _, rfl, ?_⟩
      refine ifF rfl ?_
      refine ⟨_, rfl, x, _, rfl, .inl (SqL.of (s12 _ _ hx)), _, rfl, y, _, rfl, .inl (SqL.of (s12 _ _ hy)), rfl, _, rfl, ?_⟩
      refine ifF (by rw [sq.1]; show (!decide (V.int _ = V.int _)) = false; rw [decide_eq_true rfl]; rfl) ?_
      refine ⟨_, rfl, y, _, rfl, .inl (SqL.of (s12 _ _ hy)), (ys.length : Int), rfl, by omega, by omega, fun D hD => lc_range (lo := 0) (n := ((ys.length : Nat) : Int).toNat) (fun i H' => Same (upd (upd H tp (.tup [.ty "tuple", .ty "list"])) tp2 (.tup [.ty "tuple", .ty "list"])) H' ∧ H' D = some (.lst [])) ⟨same_upd hD, upd_same⟩ ?_ ?_⟩
      · rintro i H' hi ⟨sm, hD'⟩
        have hi : i < ys.length := by omega
        have hi2 : i < xs.length := by omega
        have sm12 := s12.trans sm
        have hu : xs[i]? = some xs[i] := List.getElem?_eq_getElem hi2
        have hv : ys[i]? = some ys[i] := List.getElem?_eq_getElem hi
        have ei : (0 : Int) + (i : Int) = (i : Int) := Int.zero_add _
        refine ⟨rfl, _, rfl, _, rfl, x, _, _, _, rfl, rfl, SqL.of (sm12 _ _ hx), by rw [ei]; exact atI_nat hu, _, rfl, _, rfl, y, _, _, _, rfl, rfl, SqL.of (sm12 _ _ hy), by rw [ei]; exact atI_nat hv, _, _, rfl, m _ _ _ _ (sq.2.2 i _ _ hu hv) sm12, fun H2 s2' => ?_⟩
        refine ⟨_, rfl, ?_⟩
        refine ifF rfl ?_
        exact ⟨sm.trans s2', s2' _ _ hD'⟩
      · rintro H' ⟨sm, hD'⟩
        refine ⟨Nat.zero_le _, fun q nq => ⟨.list [], .list [], .lst (SqL.of (same_upd nq _ _ hD')) .nil, .lst (SqL.of upd_same) .nil, rfl, rfl, ?_⟩⟩
        exact k _ ((s12.trans sm).trans (same_upd nq))
    · refine ⟨_, (pss_cons (ps_if (pt_val (pe_callB call_isiT (by rfl) T.z_isinstance (by decide +kernel) (pa_cons (pv 1) (pa_cons (pe_tup (pa_cons (pe_bltn (v := .ty "tuple") (by rfl) T.z_tuple (by decide +kernel) rfl) (pa_cons (pe_bltn (v := .ty "list") (by rfl) T.z_list (by decide +kernel) rfl) pa_nil))) pa_nil)))) (pss_cons (ps_if (PW.pt (pw_or (pt_not (pt_val (pe_callB call_isiT (by rfl) T.z_isinstance (by decide +kernel) (pa_cons (pv 0) (pa_cons (pe_tup (pa_cons (pe_bltn (v := .ty "tuple") (by rfl) T.z_tuple (by decide +kernel) rfl) (pa_cons (pe_bltn (v := .ty "list") (by rfl) T.z_list (by decide +kernel) rfl) pa_nil))) pa_nil))))) (pw_or1 (pt_cmpR op_ne (pe_callB call_isi (by rfl) T.z_isinstance (by decide +kernel) (pa_cons (pv 0) (pa_cons (pe_bltn (v := .ty "list") (by rfl) T.z_list (by decide +kernel) rfl) pa_nil))) (pe_callB call_isi (by rfl) T.z_isinstance (by decide +kernel) (pa_cons (pv 1) (pa_cons (pe_bltn (v := .ty "list") (by rfl) T.z_list (by decide +kernel) rfl) pa_nil))) (nomark _))))) (pss_one (ps_ret pe_bl)) pss_nil)
      (pss_cons (ps_if (pt_cmpR op_ne (pe_callB call_len_seq (by rfl) T.z_len PySem.boot_len (pa_cons (pv 0) pa_nil)) (pe_callB call_len_seq (by rfl) T.z_len PySem.boot_len (pa_cons (pv 1) pa_nil)) (nomark _)) (pss_one (ps_ret pe_bl)) pss_nil)
      (pss_one (ps_ret (pe_cmpR (op_eqD hr.units) (pe_lc (own := [("_law_k", 2)]) (g := gName 2) rfl sc__law_same.nd (pi_range1 (by rfl) T.z_range (pa_cons (pe_callB call_len_seq (by rfl) T.z_len PySem.boot_len (pa_cons (pv 1) pa_nil)) pa_nil)) (blkOk_by (own := [("_law_k", 2)]) (N := ["_law_result", "_law_expected", "_law_k"]) (sc := (defScope s__law_same)) (by decide +kernel)) (fun _ _ _ _ _ => pg_name (i := 2) sc__law_same.nd rfl (Or.inl rfl)) (fun _ _ _ _ _ => pts_one (pt_not (pt_val (pe_call G__law_same (hr.mono (Nat.le_refl _)) (by rfl) T.mg__law_same T.F__law_same.kp (b__law_same T) .nil pass0 (pa_cons (pe_ix (show IxR _ (rIxT K) from ix_tup) (pv 0) (pv 2) (fun _ _ => rfl)) (pa_cons (pe_ix (show IxR _ (rIxT K) from ix_tup) (pv 1) (pv 2) (fun _ _ => rfl)) pa_nil)))))) (fun _ _ _ _ _ => (pv 2))) (pe_lst pa_nil) (nomark _)))))) pss_nil)
      (pss_cons (ps_if (pt_cmpR op_ne (pe_callB call_isi (by rfl) T.z_isinstance (by decide +kernel) (pa_cons (pv 0) (pa_cons (pe_bltn (v := .ty "bool") (by rfl) T.z_bool (by decide +kernel) rfl) pa_nil))) (pe_callB call_isi (by rfl) T.z_isinstance (by decide +kernel) (pa_cons (pv 1) (pa_cons (pe_bltn (v := .ty "bool") (by rfl) T.z_bool (by decide +kernel) rfl) pa_nil))) (nomark _)) (pss_one (ps_ret pe_bl)) pss_nil)
      (pss_one (ps_ret (pe_and (pe_cmpR op_eq (pe_callB call_isi (by rfl) T.z_isinstance (by decide +kernel) (pa_cons (pv 0) (pa_cons (pe_bltn (v := .ty "int") (by rfl) T.z_int (by decide +kernel) rfl) pa_nil))) (pe_callB call_isi (by rfl) T.z_isinstance (by decide +kernel) (pa_cons (pv 1) (pa_cons (pe_bltn (v := .ty "int") (by rfl) T.z_int (by decide +kernel) rfl) pa_nil))) (nomark _)) (pe_one (pe_cmpR op_eq (pv 0) (pv 1) (nomark _)))))))), ?_⟩
      refine ⟨_, rfl, by show 2 ≤ sizeLine; decide, fun tp ntp => ?_⟩
      have s1 := same_upd (o := .tup [.ty "tuple", .ty "list"]) ntp
      refine ⟨.ref y, tp, [.ty "tuple", .ty "list"], .type "tuple", [.type "tuple", .type "list"], true, rfl, upd_same, .cons (.ty _) (.cons (.ty _) .nil), .base (.tup (s1 _ _ hy)), kitTup', _, rfl, ?_⟩
      refine ifT rfl ?_
      refine ⟨_, rfl, by show 2 ≤ sizeLine; decide, fun tp2 ntp2 => ?_⟩
      have s2 := same_upd (o := .tup [.ty "tuple", .ty "list"]) ntp2
      have s12 := s1.trans s2
      refine ⟨.ref x, tp2, [.ty "tuple", .ty "list"], .type "tuple", [.type "tuple", .type "list"], true, rfl, upd_same, .cons (.ty _) (.cons (.ty _) .nil), .base (.tup (s12 _ _ hx)), kitTup', ?_⟩
      refine ⟨_, rfl, ?_⟩
      refine ifF rfl ?_
      refine ⟨_, rfl, .ref x, .ty "list", .type "tuple", .type "list", false, rfl, .ty _, .base (.tup (s12 _ _ hx)), kit_ty (by decide +kernel), _, rfl, .ref y, .ty "list", .type "tuple", .type "list", false, rfl, .ty _, .base (.tup (s12 _ _ hy)), kit_ty (by decide +kernel), rfl, _, rfl, ?_⟩
      refine ifF rfl ?_
      refine ⟨_, rfl, x, _, rfl, .inr (SqT.of (s12 _ _ hx)), _, rfl, y, _, rfl, .inr (SqT.of (s12 _ _ hy)), rfl, _, rfl, ?_⟩
      refine ifF (by rw [sq.1]; show (!decide (V.int _ = V.int _)) = false; rw [decide_eq_true rfl]; rfl) ?_
      refine ⟨_, rfl, y, _, rfl, .inr (SqT.of (s12 _ _ hy)), (ys.length : Int), rfl, by omega, by omega, fun D hD => lc_range (lo := 0) (n := ((ys.length : Nat) : Int).toNat) (fun i H' => Same (upd (upd H tp (.tup [.ty "tuple", .ty "list"])) tp2 (.tup [.ty "tuple", .ty "list"])) H' ∧ H' D = some (.lst [])) ⟨same_upd hD, upd_same⟩ ?_ ?_⟩
      · rintro i H' hi ⟨sm, hD'⟩
        have hi : i < ys.length := by omega
        have hi2 : i < xs.length := by omega
        have sm12 := s12.trans sm
        have hu : xs[i]? = some xs[i] := List.getElem?_eq_getElem hi2
        have hv : ys[i]? = some ys[i] := List.getElem?_eq_getElem hi
        have ei : (0 : Int) + (i : Int) = (i : Int) := Int.zero_add _
        refine ⟨rfl, _, rfl, _, rfl, x, _, _, _, rfl, rfl, SqT.of (sm12 _ _ hx), by rw [ei]; exact atI_nat hu, _, rfl, _, rfl, y, _, _, _, rfl, rfl, SqT.of (sm12 _ _ hy), by rw [ei]; exact atI_nat hv, _, _, rfl, m _ _ _ _ (sq.2.2 i _ _ hu hv) sm12, fun H2 s2' => ?_⟩
        refine ⟨_, rfl, ?_⟩
        refine ifF rfl ?_
        exact ⟨sm.trans s2', s2' _ _ hD'⟩
      · rintro H' ⟨sm, hD'⟩
        refine ⟨Nat.zero_le _, fun q nq => ⟨.list [], .list [], .lst (SqL.of (same_upd nq _ _ hD')) .nil, .lst (SqL.of upd_same) .nil, rfl, rfl, ?_⟩⟩
        exact k _ ((s12.trans sm).trans (same_upd nq))
theorem sameS {R : V → V → Hp → Prop} {k : Nat} (T : Txt K mg a) (m : ∀ u v H H', R u v H → Same H H' → R u v H') (G : FnOk P w K mg base CX0 k a.f__law_same a.d__law_same ["_law_result", "_law_expected"] (spAk R)) : FnOk P w K mg base CX0 (k + 1) a.f__law_same a.d__law_same ["_law_result", "_law_expected"] (spAk (AS R)) :=
  (fnOr ((sameF T).mono (Nat.le_add_left 1 k)) (sameQ T m G)).imp fun vs H Q E h => by
    obtain ⟨u, v, e, f | ⟨x, y, xs, ys, rfl, rfl, sq, hxy⟩, g⟩ := h
    · exact .inl ⟨u, v, e, f, g⟩
    · exact .inr ⟨x, y, xs, ys, e, sq, hxy, g⟩
theorem same1 (T : Txt K mg a) : FnOk P w K mg base CX0 2 a.f__law_same a.d__law_same ["_law_result", "_law_expected"] (spAk R1) := sameS T R0.mono (sameF T)
theorem same2 (T : Txt K mg a) : FnOk P w K mg base CX0 3 a.f__law_same a.d__law_same ["_law_result", "_law_expected"] (spAk R2) := sameS T R1.mono (same1 T)
end
/-! what is alike -/
theorem Fl.int (n : Int) : Fl (.int n) (.int n) := ⟨rfl, .inl ⟨n, rfl⟩⟩
theorem Fl.bl (b : Bool) : Fl (.bl b) (.bl b) := ⟨rfl, .inr (.inl ⟨b, rfl⟩)⟩
theorem Fl.str (s : Str) : Fl (.str s) (.str s) := ⟨rfl, .inr (.inr (.inl ⟨s, rfl⟩))⟩
theorem Fl.non : Fl .non .non := ⟨rfl, .inr (.inr (.inr rfl))⟩
theorem Sq1.nil {R : V → V → Hp → Prop} {H : Hp} : Sq1 R H [] [] := ⟨rfl, by decide, fun i u v h => by simp at h⟩
theorem Sq1.cons {R : V → V → Hp → Prop} {H : Hp} {u v : V} {xs ys : List V} (h : R u v H) (q : Sq1 R H xs ys) (l : xs.length < 1000000) : Sq1 R H (u :: xs) (v :: ys) := ⟨by rw [List.length_cons, List.length_cons, q.1], by rw [List.length_cons]; omega, fun i u' v' a b => match i, a, b with
  | 0, a, b => by cases a; cases b; exact h
  | i + 1, a, b => q.2.2 i u' v' a b⟩
theorem Sq1.ints {H : Hp} {ns : List Int} (l : ns.length ≤ 1000000) : Sq1 R0 H (ns.map V.int) (ns.map V.int) := ⟨rfl, by rw [List.length_map]; exact l, fun i u v a b => by
  rw [a] at b; cases b
  rw [List.getElem?_map] at a
  cases e : ns[i]? with
  | none => rw [e] at a; cases a
  | some n => rw [e] at a; cases a; exact Fl.int n⟩
end W6

/-! comparisons of nested data: what is the same, whole numbers in a row -/
namespace Ru
open PySem PySem.Spec PyProof.Rows L2 LamX
mutual
theorem eqv_self : ∀ d : PyData, d.canLay0 = true → PyData.eqv d d = true
  | .none, _ => by simp [PyData.eqv]
  | .bool b, _ => by simp [PyData.eqv]
  | .int i, _ => by simp [PyData.eqv]
  | .str x, _ => by simp [PyData.eqv]
  | .list xs, h => by
    have h : PyData.canLayAll0 xs = true := by simpa [PyData.canLay0] using h
    simp only [PyData.eqv]
    exact eqvAll_self xs h
  | .tuple xs, h => by
    have h : PyData.canLayAll0 xs = true := by simpa [PyData.canLay0] using h
    simp only [PyData.eqv]
    exact eqvAll_self xs h
  | .dict kvs, h => by simp [PyData.canLay0] at h
theorem eqvAll_self : ∀ ds : List PyData, PyData.canLayAll0 ds = true → PyData.eqvAll ds ds = true
  | [], _ => by simp [PyData.eqvAll]
  | x :: xs, h => by
    simp only [PyData.canLayAll0, Bool.and_eq_true] at h
    simp only [PyData.eqvAll, Bool.and_eq_true]
    exact ⟨eqv_self x h.1, eqvAll_self xs h.2⟩
end
/-- can be compared; at most so deep -/
def Sh (n : Nat) (d : PyData) : Prop := d.canLay0 = true ∧ d.depth ≤ n
theorem canAll : ∀ {ds : List PyData}, (∀ d ∈ ds, d.canLay0 = true) → PyData.canLayAll0 ds = true
  | [], _ => by simp [PyData.canLayAll0]
  | x :: xs, h => by
    simp only [PyData.canLayAll0, Bool.and_eq_true]
    exact ⟨h x (List.mem_cons_self ..), canAll fun d m => h d (List.mem_cons_of_mem _ m)⟩
theorem depAll {n : Nat} : ∀ {ds : List PyData}, (∀ d ∈ ds, d.depth ≤ n) → PyData.depthAll ds ≤ n
  | [], _ => by simp [PyData.depthAll]
  | x :: xs, h => by
    simp only [PyData.depthAll]
    exact Nat.max_le.mpr ⟨h x (List.mem_cons_self ..), depAll fun d m => h d (List.mem_cons_of_mem _ m)⟩
theorem Sh.int {n : Nat} {i : Int} : Sh n (.int i) := ⟨by simp [PyData.canLay0], by simp [PyData.depth]⟩
theorem Sh.bool {n : Nat} {b : Bool} : Sh n (.bool b) := ⟨by simp [PyData.canLay0], by simp [PyData.depth]⟩
theorem Sh.non {n : Nat} : Sh n .none := ⟨by simp [PyData.canLay0], by simp [PyData.depth]⟩
theorem Sh.str {n : Nat} {s : Str} (h : PyData.strOk s = true) : Sh n (.str s) := ⟨by simpa [PyData.canLay0] using h, by simp [PyData.depth]⟩
theorem Sh.list {n : Nat} {ds : List PyData} (h : ∀ d ∈ ds, Sh n d) : Sh (n + 1) (.list ds) := ⟨by simp only [PyData.canLay0]; exact canAll fun d m => (h d m).1, by simp only [PyData.depth]; exact Nat.succ_le_succ (depAll fun d m => (h d m).2)⟩
theorem Sh.tup {n : Nat} {ds : List PyData} (h : ∀ d ∈ ds, Sh n d) : Sh (n + 1) (.tuple ds) := ⟨by simp only [PyData.canLay0]; exact canAll fun d m => (h d m).1, by simp only [PyData.depth]; exact Nat.succ_le_succ (depAll fun d m => (h d m).2)⟩
theorem Sh.shaped {n : Nat} {d : PyData} (h : Sh n d) (l : n ≤ 64 := by decide) : SeqAt.shaped d = true := by
  unfold SeqAt.shaped
  rw [Bool.and_eq_true]
  exact ⟨h.1, decide_eq_true (Nat.le_trans h.2 l)⟩
theorem sh_nil {n : Nat} : ∀ d ∈ ([] : List PyData), Sh n d := fun d m => by cases m
theorem sh_cons {n : Nat} {x : PyData} {xs : List PyData} (h : Sh n x) (t : ∀ d ∈ xs, Sh n d) : ∀ d ∈ x :: xs, Sh n d := fun d m => by
  rcases List.mem_cons.mp m with rfl | m
  · exact h
  · exact t d m
theorem sh_ints {n : Nat} {ns : List Int} : ∀ d ∈ ns.map PyData.int, Sh n d := fun d m => by
  obtain ⟨i, _, rfl⟩ := List.mem_map.mp m
  exact Sh.int
section
variable {K : PySem.W.Frag} {H : Hp} {x y : V} {d e : PyData} {Q : VK}
theorem neD_self (h : Dp K H x d) (h2 : Dp K H y d) (s : SeqAt.shaped d = true) (q : Q (.bl false) H) : rNeD K x y H Q :=
  ⟨d, d, h, h2, s, s, by rw [eqv_self d (by unfold SeqAt.shaped at s; exact ((Bool.and_eq_true ..).mp s).1)]; exact q⟩
theorem eqD_self (h : Dp K H x d) (h2 : Dp K H y d) (s : SeqAt.shaped d = true) (q : Q (.bl true) H) : rEqD K x y H Q :=
  ⟨d, d, h, h2, s, s, by rw [eqv_self d (by unfold SeqAt.shaped at s; exact ((Bool.and_eq_true ..).mp s).1)]; exact q⟩
theorem dp_ints : ∀ ns : List Int, DpAll K H (ns.map V.int) (ns.map PyData.int)
  | [] => .nil
  | n :: r => .cons (.int n) (dp_ints r)
theorem eqvA_ints : ∀ xs ys : List Int, PyData.eqvAll (xs.map PyData.int) (ys.map PyData.int) = decide (xs = ys)
  | [], [] => by simp [PyData.eqvAll]
  | [], y :: ys => by simp [PyData.eqvAll]
  | x :: xs, [] => by simp [PyData.eqvAll]
  | x :: xs, y :: ys => by
    rw [List.map_cons, List.map_cons, PyData.eqvAll, eqvA_ints xs ys]
    by_cases e : x = y
    · by_cases f : xs = ys
      · simp [PyData.eqv, e, f]
      · simp [PyData.eqv, e, f]
    · simp [PyData.eqv, e]
variable {p q : Addr} {ns ms : List Int}
theorem eqL_ints (h : H p = some (.lst (ns.map V.int))) (h2 : H q = some (.lst (ms.map V.int))) (k : Q (.bl (decide (ns = ms))) H) : rEqD K (.ref p) (.ref q) H Q :=
  ⟨.list (ns.map PyData.int), .list (ms.map PyData.int), .lst (SqL.of h) (dp_ints ns), .lst (SqL.of h2) (dp_ints ms), (Sh.list (n := 0) sh_ints).shaped, (Sh.list (n := 0) sh_ints).shaped, by simp only [PyData.eqv]; rw [eqvA_ints]; exact k⟩
theorem neL_ints (h : H p = some (.lst (ns.map V.int))) (h2 : H q = some (.lst (ms.map V.int))) (k : Q (.bl (!decide (ns = ms))) H) : rNeD K (.ref p) (.ref q) H Q :=
  ⟨.list (ns.map PyData.int), .list (ms.map PyData.int), .lst (SqL.of h) (dp_ints ns), .lst (SqL.of h2) (dp_ints ms), (Sh.list (n := 0) sh_ints).shaped, (Sh.list (n := 0) sh_ints).shaped, by simp only [PyData.eqv]; rw [eqvA_ints]; exact k⟩
theorem eqT_ints (h : H p = some (.tup (ns.map V.int))) (h2 : H q = some (.tup (ms.map V.int))) (k : Q (.bl (decide (ns = ms))) H) : rEqD K (.ref p) (.ref q) H Q :=
  ⟨.tuple (ns.map PyData.int), .tuple (ms.map PyData.int), .tup (SqT.of h) (dp_ints ns), .tup (SqT.of h2) (dp_ints ms), (Sh.tup (n := 0) sh_ints).shaped, (Sh.tup (n := 0) sh_ints).shaped, by simp only [PyData.eqv]; rw [eqvA_ints]; exact k⟩
theorem neT_ints (h : H p = some (.tup (ns.map V.int))) (h2 : H q = some (.tup (ms.map V.int))) (k : Q (.bl (!decide (ns = ms))) H) : rNeD K (.ref p) (.ref q) H Q :=
  ⟨.tuple (ns.map PyData.int), .tuple (ms.map PyData.int), .tup (SqT.of h) (dp_ints ns), .tup (SqT.of h2) (dp_ints ms), (Sh.tup (n := 0) sh_ints).shaped, (Sh.tup (n := 0) sh_ints).shaped, by simp only [PyData.eqv]; rw [eqvA_ints]; exact k⟩
end
end Ru

set_option maxHeartbeats 4000000
/-! a != b of instances of a class with its own __eq__; t * 1; max of a tuple of ints -/
namespace Ru
open PySem PySem.Spec PyProof.Rows L2 StX
section
variable {X : Cx} {CX : CXT} {k : Nat} {f C : Addr} {fd : FuncData} {ps : List Str} {sp : Sp} {E : XK}
/-- what the class says of == and != -/
structure NeC (K : PySem.W.Frag) (C f : Addr) : Prop where
  ne : PySem.W.findIn K (.ref C) "__ne__" = some (some (.builtin "object.__ne__"))
  eq : PySem.W.findIn K (.ref C) "__eq__" = some (some (.ref f))
  fn : PySem.W.isFn K (.ref f) = true
  mks : PySem.W.makesIn K C = true
def rOwnN (C : Addr) (sp : Sp) (E : XK) : R2 := fun x y H Q => ∃ a dx fs b dy gs, x = .ref a ∧ y = .ref b ∧ H a = some (.ins C dx fs) ∧ H b = some (.ins C dy gs) ∧ sp [.ref a, .ref b] H (fun v H' => ∃ c, v = .bl c ∧ Q (.bl (!c)) H') E
theorem op_ownNe (mt : NeC X.K C f) (F : FnOk X.prog X.w X.K X.mg X.base CX k f fd ps sp) (hb : Binds X.K fd ps []) (hr : Room (k + 1) X.A) (hx : Passes CX X E) : OpR X (compareOp .NotEq) (rOwnN C sp E) := by
  intro pins s σ H x y v u Q I rx ry h
  obtain ⟨a, dx, fs, b, dy, gs, rfl, rfl, ea, eb, q⟩ := h
  obtain rfl : v = Value.ref a := rx
  obtain rfl : u = Value.ref b := ry
  obtain ⟨mA, J, _⟩ := ins_get I.hok ea
  obtain ⟨mB, J', _⟩ := ins_get I.hok eb
  obtain ⟨od, J, _⟩ := J.look
  obtain ⟨od', J', _⟩ := J'.look
  have X0 := I.kIn
  have hu : X.A.units + 1 < cLine := by
    have := hr.in1.units0
    exact this
  have run : codeAny (model X.prog X.w) X.A.in1 (.call (.ref f) ⟨[.ref a, .ref b], []⟩) (CR CX X.stack X.prog X.w H s (fun v H' => ∃ c, v = .bl c ∧ Q (.bl (!c)) H') E) s := by
    refine F.run X.A.in1 X.stack s H ⟨[.ref a, .ref b], []⟩ [.ref a, .ref b] [.ref a, .ref b] _ E hr.in1 I.env0.in1 ?_ (.cons rfl (.cons rfl .nil)) q
    have e := F.len _ _ _ _ q
    have z := hb s [.ref a, .ref b] X0 (by simpa using e)
    simpa using z
  have top : PySem.W.Looks (model X.prog X.w) s.heap (isInstance (.ref a) (.type "object")) true := J.type.andThen (PySem.W.makes_of X0 mt.mks).top
  have hu1 : X.A.in1.units < cLine := hr.in1.units0
  have hcall : wpAny (model X.prog X.w) X.A.in1 (call (.ref f) (.ref a :: [.ref b])) (fun v s' => ∃ c, v = .bool c ∧ EP X pins σ Q (.bool (!c)) s') X.xe s := by
    refine wpAny_call (codeAny_mono run fun r s' hq => ?_)
    cases r with
    | error e => exact hx pins σ H s e s' I hq
    | ok fl =>
      cases fl with
      | ret u =>
        obtain ⟨v, H', I3, rv, c, rfl, q3⟩ := I.after hq
        obtain rfl : u = Value.bool c := rv
        exact ⟨c, rfl, .bl (!c), H', I3, rfl, q3⟩
      | next => exact False.elim hq
      | brk => exact False.elim hq
      | cont => exact False.elim hq
  have body : wpAny (model X.prog X.w) X.A (tryCompare (.ref a) "__ne__" (.ref b)) (fun r s' => ∃ v, r = some v ∧ EP X pins σ Q v s') X.xe s := by
    unfold tryCompare callSpecialIfBound? bindSpecialIfBound?
    refine wpAny_bind (wpAny_holding (wpAny_bind (wpAny_bind (wpAny_bind (J.type.here ((PySem.W.looks_findIn X0 mt.ne).here ?_))))))
    simp only [PySem.F.cmp_object.ne.bind]
    have two : wpAny (model X.prog X.w) X.A (call (.builtin "object.__ne__") [.ref a, .ref b]) (fun v s' => ∃ c, v = .bool c ∧ EP X pins σ Q v s') X.xe s := by
      refine wpAny_call (codeAny_call_builtin PySem.F.cmp_object.ne.plain PySem.F.cmpEntry_ne (PySem.W.check_slot PySem.F.cmpKind_ne PySem.F.cmpSplit_ne top (PySem.F.cmpArgs_ne _ _) ?_))
      unfold Builtin.«object.__ne__»
      repeat (first
        | with_reducible refine wpAny_cRoomFor (A := X.A.in1) hu1 ?_
        | (refine wpAny_bind (m := callSpecialIfBound? (.ref a) (PySem.Str.ofString "__eq__") [.ref b])
            (PySem.W.ifBound_K X0 J mt.eq mt.fn (wpAny_mono hcall (fun r s' hr => by
              obtain ⟨c, rfl, hq⟩ := hr
              have hq2 : ∃ c', Value.bool (!c) = .bool c' ∧ EP X pins σ Q (.bool (!c)) s' := ⟨_, rfl, hq⟩
              repeat (first | exact hq2 | exact wpAny_pure hq2 | exact wpAny_truthy_bool hq2 | (refine wpAny_bind (m := truthy (.bool _)) (wpAny_truthy_bool ?_)) | wp_step)) fun _ _ e => e)))
        | wp_step)
    have fin : wpAny (model X.prog X.w) X.A (call (.builtin "object.__ne__") ([.ref a] ++ [.ref b]) >>= fun v => pure (some v)) (fun r s' => wpAny (model X.prog X.w) X.A (match r with | some .notImplemented | none => pure none | some v => pure (some v)) (fun r s' => ∃ v, r = some v ∧ EP X pins σ Q v s') X.xe s') X.xe s := by
      refine wpAny_bind (wpAny_mono two (fun v s' h' => ?_) fun _ _ h' => h')
      obtain ⟨c, rfl, e⟩ := h'
      exact wpAny_pure (wpAny_pure ⟨_, rfl, e⟩)
    refine wpAny_bind (wpAny_askSetting (wpAny_ite ?_))
    split
    · exact wpAny_bind (wpAny_pure (wpAny_pure fin))
    · exact wpAny_tryCatch (wpAny_bind (wpAny_pure (wpAny_pure fin)))
  show wpAny (model X.prog X.w) X.A (richCompare .NotEq (.ref a) (.ref b)) (EP X pins σ Q) X.xe s
  unfold richCompare
  simp only [oneThing_ref]
  refine wpAny_holding (wpAny_bind (wpAny_cRoomFor (Nat.lt_of_succ_lt hu) ?_))
  refine wpAny_bind (J.type.here (wpAny_bind (J'.type.here ?_)))
  rw [show (Value.ref C != Value.ref C) = false from by simp]
  simp only [Bool.false_eq_true, if_false]
  refine wpAny_bind (wpAny_pure ?_)
  simp only [Bool.false_eq_true, if_false]
  refine wpAny_bind (wpAny_mono body (fun r s' h' => ?_) fun _ _ h' => h')
  obtain ⟨v, rfl, e⟩ := h'
  exact wpAny_pure e
/-- t * 1 is t -/
theorem tuple_mul1 (l : Addr) (items : Array Value) (n : Nat) (dd : Option Addr) (sl : Array (Option Value)) (u : Tok) :
    Meets (Builtin.«tuple.__mul__» ⟨[.ref l, .int 1 u], []⟩) (fun _ R s => s.heap.get? l = some { cls := .type "tuple", dict := dd, data := .seq items n, slots := sl } ∧ R (.ok (.ret (Value.ref l))) s) :=
  .of_wp fun prog w A R s h => by
    obtain ⟨hp, g, d, tk, os⟩ := s
    obtain ⟨hl, h⟩ := h
    have f1 := AutoSeq1.idx_int
    wp_walk using wpAny_loadPart' hl
    repeat (first
      | (refine wpAny_ite_false (decide_eq_false (by decide)) ?_; wp_walk using wpAny_loadPart' hl)
      | (refine wpAny_ite_true (decide_eq_true (by simp)) ?_; wp_walk using wpAny_loadPart' hl))
    exact ⟨_, rfl, h⟩
def rRepA (K : PySem.W.Frag) : R2 := fun x y H Q => rRepT K x y H Q ∨ ∃ l xs, x = .ref l ∧ y = .int 1 ∧ SqT K H l xs ∧ Q (.ref l) H
theorem op_repA : OpR X (binaryOp .Mult) (rRepA X.K) := by
  intro pins s σ H x y v u Q I rx ry h
  rcases h with h | ⟨l, xs, rfl, rfl, hT, q⟩
  · exact op_repT pins s σ H x y v u Q I rx ry h
  cases rx
  obtain ⟨t, rfl⟩ := ry
  obtain ⟨its, r, ⟨⟨cls, dd, data, sl⟩, ho, hc, n, hd⟩, hs⟩ := I.tuple hT
  simp only at hc hd
  subst hc hd
  refine wpAny_binaryOp_repeat_ref (T := "tuple") (U := "int") (by decide) ⟨_, ho, rfl⟩ (fun s' => typeIs_int s' 1 t) noFill_tuple_mul F.fills_int_mul F.slot_int_rmul repeat_tuple F.slot_int_index.lookup
    (call_meets F.slot_int_rmul (typeIs_int s 1 t) F.entry_int_rmul (F.args_int_rmul_2 _ _) (int_rmul_tuple 1 t l its.toArray n dd sl)
      ⟨ho, rfl, ⟨_, ho, rfl⟩, call_meets F.slot_tuple_mul ⟨_, ho, rfl⟩ F.entry_tuple_mul (F.args_tuple_mul_2 _ _) (tuple_mul1 l its.toArray n dd sl t) ⟨ho, ?_⟩⟩)
  exact ⟨.ref l, H, I, rfl, q⟩
/-- max(t), t a tuple of ints -/
def rMaxT (K : PySem.W.Frag) : List V → Hp → VK → Prop := fun vs H Q => ∃ (a : Addr) (ns : List Int), vs = [V.ref a] ∧ SqT K H a (ns.map V.int) ∧ 0 < ns.length ∧ ∀ m, m ∈ ns → (∀ y, y ∈ ns → y ≤ m) → Q (.int m) H
theorem fold_max : ∀ (r : List Int) (n : Int), (r.foldl max n = n ∨ r.foldl max n ∈ r) ∧ n ≤ r.foldl max n ∧ ∀ y ∈ r, y ≤ r.foldl max n
  | [], n => ⟨.inl rfl, Int.le_refl _, fun y hy => nomatch hy⟩
  | k :: r, n => by
    obtain ⟨a, b, c⟩ := fold_max r (max n k)
    rw [List.foldl_cons]
    refine ⟨?_, by omega, ?_⟩
    · rcases a with a | a
      · rw [a]
        by_cases q : k ≤ n
        · left; omega
        · right; rw [show max n k = k by omega]; exact List.mem_cons_self
      · exact .inr (List.mem_cons_of_mem _ a)
    · intro y hy
      rcases List.mem_cons.mp hy with rfl | hy
      · omega
      · exact c y hy
theorem cr_maxT (hc : X.calm = true) (hu : X.A.units + 1 < cLine) : CallR X (.builtin "max") (rMaxT X.K) := fun pins s σ H vs us Q I r h => by
  obtain ⟨p, ns, rfl, hs, ne, g⟩ := h
  obtain ⟨its, rv, hl, _⟩ := I.tuple hs
  obtain rfl := Vals.ref1 r
  obtain ⟨as, ra⟩ := reads_ints (h := s.heap) rv.ints
  cases ns with
  | nil => exact absurd ne (Nat.lt_irrefl 0)
  | cons n r =>
    refine PySem.W.max_tuple_data (x := .int n) (xs := r.map .int) (I.ok.hd hc) hl (by simpa using ra) (alike_ints (n :: r)) (by rw [show (PyData.int n :: r.map .int) = (n :: r).map PyData.int from rfl, depth_ints]; omega) fun i v h' tk bs hv rd hk => ?_
    rw [PySem.W.maxD_ints] at rd
    generalize em : r.foldl max n = m at rd
    have fm := fold_max r n
    rw [em] at fm
    cases rd with
    | int _ t =>
      refine ⟨.int m, H, I.kept hk, ⟨t, rfl⟩, g m ?_ fun y hy => ?_⟩
      · rcases fm.1 with q | q
        · rw [q]; exact List.mem_cons_self
        · exact List.mem_cons_of_mem _ q
      · rcases List.mem_cons.mp hy with rfl | hy
        · exact fm.2.1
        · exact fm.2.2 y hy
end
end Ru

set_option maxHeartbeats 4000000
/-! o[i] by the class's own __getitem__, o(i) by its own __call__ -/
namespace Ru
open PySem PySem.Spec PyProof.Rows L2 StX
section
variable {X : Cx} {CX : CXT} {k i : Nat} {f C : Addr} {fd : FuncData} {ps : List Str} {sp : Sp} {E : XK} {x : Str} {a b e : Expr} {es : List Expr} {ta tb : TE} {t : TA} {p pos : Pos}
/-- o[i], o an instance of C -/
def rOwnIx (C : Addr) (sp : Sp) (E : XK) : R2 := fun x y H Q => ∃ o dx fs, x = .ref o ∧ H o = some (.ins C dx fs) ∧ sp [.ref o, y] H Q E
theorem run_fn1 {pins : List (Addr × Obj)} {σ : L2.St} {H : Hp} {s : Shared} {Q : VK} {us : List Value} {vs : List V} (F : FnOk X.prog X.w X.K X.mg X.base CX k f fd ps sp) (hr : Room (k + 1) X.A) (hb : Binds X.K fd ps []) (hx : Passes CX X E)
    (I : Inv X pins σ H s) (r : Vals vs us) (h : sp vs H Q E) : wpAny (model X.prog X.w) X.A.in1 (call (.ref f) us) (EP X pins σ Q) X.xe s := by
  have hl : us.length = ps.length := by rw [← r.length]; exact F.len _ _ _ _ h
  have z := hb s us I.kIn (by rw [List.append_nil]; exact hl)
  rw [List.append_nil] at z
  refine wpAny_call (codeAny_mono (F.run X.A.in1 X.stack s H ⟨us, []⟩ us vs Q E hr.in1 I.env0.in1 z r h) fun r s' hq => ?_)
  cases r with
  | error e => exact hx pins σ H s e s' I hq
  | ok fl =>
    cases fl with
    | ret u => exact I.after hq
    | next => exact False.elim hq
    | brk => exact False.elim hq
    | cont => exact False.elim hq
theorem pe_ixOwn (mt : Meth X.K C "__getitem__" f) (hfn : PySem.W.fnIn X.K f = true) (F : FnOk X.prog X.w X.K X.mg X.base CX k f fd ps sp) (hb0 : Binds X.K fd ps []) (hr : Room (k + 1) X.A) (hx : Passes CX X E) (ha : PE X a ta) (hb : PE X b tb)
    (hs : ∀ v u : Value, subscripted b true v u = runValue (.builtin "lifetime.subscript" ⟨[v, u], []⟩) := by intro _ _; rfl) : PE X (.Subscript a b pos) (tOp (rOwnIx C sp E) ta tb) := by
  refine ⟨fun pins s σ H Q I h => ?_⟩
  refine Subscript_ (binT ha hb I h fun v u s2 xx yy H2 I2 rx ry q => ?_)
  obtain ⟨o, dx, fs, rfl, ho, hsp⟩ := q
  obtain rfl : v = Value.ref o := rx
  obtain ⟨mA, J, _⟩ := ins_get I2.hok ho
  obtain ⟨od, J, _⟩ := J.look
  obtain ⟨m, hF⟩ := I2.fr
  exact PySem.W.sub_K hF I2.ok.mod.kin J mt.at_ hfn mt.fn (run_fn1 (us := [.ref o, u]) (vs := [.ref o, yy]) F hr hb0 hx I2 (.cons rfl (.cons ry .nil)) hsp) (hs _ _)
/-- a call whose callee is a plain instance when the arguments are there -/
theorem callWith_inst {M : Model} {A : Around} {W : Value → Shared → Prop} {sq : Shared} {en : Env} {o : Addr} {Qz : Value → Shared → Prop}
    (h : wpAny M A (spliced (backTo pos (starEach (e :: es) en))) (fun vs sz => (∃ (K : PySem.W.Frag) (C : Addr) (ox : Obj) (od : Option Obj), PySem.W.InstAt sz.heap o ox C od ∧ ox.data = .plain) ∧ wpAny M A (call (.ref o) vs) Qz W sz) W sq)
    (he : starEach (e :: es) en = (false, eval e en) :: starEach es en) (hpl : (backTo pos (starEach es en)).any (·.1) = false) :
    wpAny M A (callWith pos (.ref o) [] (backTo pos (starEach (e :: es) en)) []) Qz W sq := by
  have hp : ((backTo pos (starEach (e :: es) en)).any (·.1) || ([] : List (Option Str × Sem Value)).any (·.1.isNone)) = false := by
    rw [he]
    show ((false || (backTo pos (starEach es en)).any (·.1)) || false) = false
    rw [hpl]; rfl
  have ev : wpAny M A (evalArgs (.ref o) true (backTo pos (starEach (e :: es) en)) []) (fun r sz => (∃ (K : PySem.W.Frag) (C : Addr) (ox : Obj) (od : Option Obj), PySem.W.InstAt sz.heap o ox C od ∧ ox.data = .plain) ∧ wpAny M A (call (.ref o) r.pos r.kw) Qz W sz) W sq := by
    rw [he] at h ⊢
    exact Calls.evalArgs_plain h
  unfold callWith
  refine wpAny_bind (wpAny_holding (wpAny_mono ev (fun r sz hz => ?_) fun _ _ z => z))
  obtain ⟨⟨K, C, ox, od, J, hd⟩, go⟩ := hz
  refine wpAny_bind (wpAny_standAt ?_)
  simp only [hp]
  refine wpAny_bind ((PySem.W.kco_keeper (M := M) J hd).here ?_)
  exact wpAny_bind (wpAny_mono (wpAny_operateT go) (fun v sv hv => wpAny_bind (wpAny_holding (wpAny_point (wpAny_pure hv)))) fun _ _ z => z)
/-- x(e, ..), x a name of the def that holds an instance of C -/
def tCallO (C : Addr) (i : Nat) (sp : Sp) (E : XK) (t : TA) : TE := fun σ H Q => ∃ o, σ[i]? = some (some (.ref o)) ∧ t σ H fun vs H1 => ∃ dx fs, H1 o = some (.ins C dx fs) ∧ sp (.ref o :: vs) H1 Q E
theorem pe_callO (mt : Meth X.K C "__call__" f) (hfn : PySem.W.fnIn X.K f = true) (F : FnOk X.prog X.w X.K X.mg X.base CX k f fd ps sp) (hb0 : Binds X.K fd ps []) (hr : Room (k + 1) X.A) (hx : Passes CX X E) (hN : X.N[i]? = some x) (hv : Vis X.env.scope x) (ha : PA X (e :: es) t)
    (hdb : (x == ("__debug__" : Str)) = false := by decide) (hcd : (x == ("__classdict__" : Str)) = false := by decide)
    (he : starEach (e :: es) X.env = (false, eval e X.env) :: starEach es X.env := by rfl) (hpl : (backTo pos (starEach es X.env)).any (·.1) = false := by rfl) : PE X (.Call (.Name x p) (e :: es) [] pos) (tCallO C i sp E t) := by
  refine ⟨fun pins s σ H Q I h => ?_⟩
  obtain ⟨o, hs, ht⟩ := h
  refine wpAny_Call_Name_kw (thn ((pe_var (pos := p) hN hv hdb hcd).run pins s σ H (fun v H1 => v = .ref o ∧ H1 = H) I ⟨.ref o, hs, rfl, rfl⟩) fun u s1 ⟨v, H1, I1, r1, q1⟩ => ?_)
  obtain ⟨rfl, rfl⟩ := q1
  cases r1
  refine callWith_inst (thn (ha.run pos pins s1 σ _ _ I1 ht) fun us s2 ⟨vs, H2, I2, r, dx, fs, ho, hsp⟩ => ?_) he hpl
  obtain ⟨mA, J, _⟩ := ins_get I2.hok ho
  obtain ⟨od, J, _⟩ := J.look
  refine ⟨⟨X.K, C, _, _, J, rfl⟩, ?_⟩
  have r2 : Vals (V.ref o :: vs) (Value.ref o :: us) := .cons rfl r
  have hl : (Value.ref o :: us).length = ps.length := by rw [← r2.length]; exact F.len _ _ _ _ hsp
  have z := hb0 s2 (Value.ref o :: us) I2.kIn (by rw [List.append_nil]; exact hl)
  rw [List.append_nil] at z
  refine wpAny_call (PySem.W.kco_code I2.kIn J rfl mt.at_ mt.fn hfn (codeAny_mono (F.run X.A X.stack s2 H2 ⟨Value.ref o :: us, []⟩ (Value.ref o :: us) (V.ref o :: vs) Q E (hr.mono (Nat.le_succ _)) I2.env0 z r2 hsp) fun rr s' hq => ?_))
  cases rr with
  | error er => exact hx pins σ H2 s2 er s' I2 hq
  | ok fl =>
    cases fl with
    | ret u => exact I2.after hq
    | next => exact False.elim hq
    | brk => exact False.elim hq
    | cont => exact False.elim hq
end
end Ru

set_option maxHeartbeats 4000000
/-! a def that gets a lambda, and calls it in a lambda of its own -/
namespace Ru
open PySem PySem.Spec PyProof.Rows L2 LamX
/-- what is known of a lambda's body where more is known of the heap at its call -/
structure LamBP (X : Cx) (Pr : Hp → Heap → Prop) (k : Nat) (params : Arguments) (body : Expr) (scope : Scope) (ds : List V) (t : XK → TE) : Prop where
  L : LamS2 X.N X.env.scope scope
  bnd : LamBnd params body scope ds
  pe : ∀ (A : Around) (outer : List Env) (s : Shared) (H : Hp) (E : XK) (f c' : Addr), Pr H s.heap → Room k (A.deeper (lamEnv X scope s.heap.objs.size f c')) → PE (lamCx X A outer s H E scope f c') body (t E)
/-- what a call leaves alone -/
def Stable (Pr : Hp → Heap → Prop) : Prop := ∀ (fs : List Addr) (H H' : Hp) (h h' : Heap), Un fs [] H H' h h' → Pr H h → Pr H' h'
theorem CellsAt.stable {X : Cx} {σ : L2.St} : Stable (CellsAt X σ) := fun _ _ _ _ _ un c => c.un un fun _ _ _ z => nomatch z
theorem lam_runP {X : Cx} {Pr : Hp → Heap → Prop} {A : Around} {outer : List Env} {s : Shared} {H : Hp} {σ : L2.St} {f : Addr} {params : Arguments} {body : Expr} {scope : Scope} {ds : List V} {t : XK → TE} {k : Nat} {E : XK} {Q : VK}
    (e0 : Env0 X.prog X.w X.K X.mg X.base A outer s H) (C : CellsAt X σ H s.heap) (hP : Pr H s.heap) (la : LamAt X H f params body scope ds) (B : LamBP X Pr k params body scope ds t) (hr : Room (k + 1) A) (h : t E σ H Q) :
    codeAny (model X.prog X.w) A (.call (.ref f) ⟨[], []⟩) (CR (L2.CX X.prog X.w) outer X.prog X.w H s Q E) s := by
  obtain ⟨c', dV, hf, hc, hd⟩ := la
  obtain ⟨⟨doc, pm, ctv, lam⟩, _, _⟩ := e0.hok f _ hf
  obtain ⟨⟨oc, vs, tc, hoc, hdc, hvc⟩, _, _⟩ := e0.hok c' _ hc
  have lim : s.heap.NoLimit := e0.mod.nolimit.keeps fun b o e => (e0.bs b o e).1
  have hd' : (ds = [] ∧ dV = .none) ∨ (ds ≠ [] ∧ ∃ (T : Addr) (o : Obj) (its : List Value) (n : Nat), dV = .ref T ∧ s.heap.get? T = some o ∧ o.data = .seq its.toArray n ∧ Vals ds its) := by
    rcases hd with z | ⟨z0, T, z1, z2⟩
    · exact .inl z
    · obtain ⟨_, its, r, o, ho, _, n, hn⟩ := e0.hok T _ z2
      exact .inr ⟨z0, T, o, its, n, z1, ho, hn, r⟩
  obtain ⟨binds, hb, hloc⟩ := B.bnd (X.env.qual ++ "<lambda>") (cloFrom X.env.cells scope.names []) doc pm (.ref c') ctv dV s hd'
  refine PySem.W.kla_callFunE hr.depth lam rfl B.L.co B.L.gen rfl ⟨c', oc, vs, tc, rfl, hoc, hdc, hvc⟩ (hb _ _ _ _ ?_)
  refine wpAny_newFunctionEnv (fun y hy => (B.L.own y hy).1) hloc (fun hB nsB sb => ⟨lim.fresh _ sb, ?_⟩) B.L.kind
  show codeAny _ _ (.expr body (lamEnv X scope s.heap.objs.size f c')) _ _
  have kp : ∀ b o, s.heap.get? b = some o → hB.get? b = some o := fun b o e => sb.extBut b o (Nat.ne_of_lt (Heap.lt_size e)) (Heap.get?_push_of_some _ e)
  have J := lam_start3 (f := f) (c' := c') (E := E) (tk := s.toks + binds.length) C B.L e0 hr.hd nsB kp
  refine PySem.W.kla_codeExpr (wpAny_mono ((B.pe _ _ s H E f c' hP (hr.deeper _)).run [] _ _ H Q J h) (fun v sx hq => ?_) fun e sx hq => hq)
  obtain ⟨vv, Hx, Jx, rv, q⟩ := hq
  exact ⟨vv, Hx, Jx.os, Jx.bare, Jx.base, Jx.hok, rv, q⟩
section
variable {X : Cx} {Pr : Hp → Heap → Prop}
theorem pe_act2P {sg : Scope} {g : Addr} {cdg : Value} {Ng : List Str} {qg a : Str} {s : Shared} {H : Hp} {σ : L2.St} {f : Addr} {params : Arguments} {body : Expr} {scope : Scope} {ds : List V} {k : Nat} {pn : List (Addr × Obj)} {xe : Value → Shared → Prop} {W : WX} {t : XK → TE} {pa pc : Pos}
    (hS : Stable Pr) (C : CellsAt X σ H s.heap) (hP : Pr H s.heap) (la : LamAt X H f params body scope ds) (B : LamBP X Pr k params body scope ds t)
    (tk : Takes ((cxOf C8.CX0 X.prog X.w X.K X.mg X.base Ng qg sg g cdg X.A X.stack s H C8.E0).tr pn xe) W) (hr : Room (k + 1) (X.A.deeper (envOfC qg sg s.heap.objs.size g cdg)))
    (hN : Ng[0]? = some a) (hv : Vis sg a) (hd : (a == ("__debug__" : Str)) = false) (hcd : (a == ("__classdict__" : Str)) = false) :
    PE ((cxOf C8.CX0 X.prog X.w X.K X.mg X.base Ng qg sg g cdg X.A X.stack s H C8.E0).tr pn xe) (.Call (.Name a pa) [] [] pc) (tAct2 f H (fun Ez Hz Q => t Ez σ Hz Q) W) := by
  refine ⟨fun pz sz σz Hz Q Iz h => ?_⟩
  obtain ⟨hs, sm, Ez, hW, ht⟩ := h
  refine wpAny_Call_Name_kw (thn ((pe_var (pos := pa) (i := 0) hN hv hd hcd).run pz sz σz Hz (fun v Hy => v = .ref f ∧ Hy = Hz) Iz ⟨.ref f, hs, rfl, rfl⟩) fun u sy ⟨v, Hy, Iy, ry, qy⟩ => ?_)
  obtain ⟨rfl, rfl⟩ := qy
  obtain rfl : u = Value.ref f := ry
  have la' := la.same sm
  obtain ⟨c', dV, hf, hc, hdd⟩ := id la'
  obtain ⟨⟨doc, pm, ctv, lam⟩, _, _⟩ := Iy.hok f _ hf
  refine PySem.W.callWith_F0 ⟨_, _, _, _, lam⟩ ?_
  have un : Un (frs X.stack) [] H Hy s.heap sy.heap := Iy.base
  have run : codeAny (model X.prog X.w) (X.A.deeper (envOfC qg sg s.heap.objs.size g cdg)) (.call (.ref f) ⟨[], []⟩)
      (CR (L2.CX X.prog X.w) (envOfC qg sg s.heap.objs.size g cdg :: X.stack) X.prog X.w Hy sy Q Ez) sy :=
    lam_runP (X := X) Iy.env0 (C.un un fun _ _ _ z => nomatch z) (hS _ _ _ _ _ un hP) la' B hr ht
  refine wpAny_call (codeAny_mono run fun r sx hq => ?_)
  cases r with
  | error e => exact tk e sx (XE.of_call Iy (fun cls d Hx hE => hW cls d Hx hE) hq)
  | ok fl =>
    cases fl with
    | ret u => exact Iy.after hq
    | next => exact False.elim hq
    | brk => exact False.elim hq
    | cont => exact False.elim hq
theorem give_runP {TT : (XK → Hp → VK → Prop) → Hp → VK → Prop} {x a : Str} {g : Addr} {k : Nat} {bg : List Stmt} {sg : Scope} {Ng : List Str} {params : Arguments} {body : Expr} {scope : Scope} {ds : List V} {t : XK → TE} {s : Shared} {H : Hp} {σ : L2.St} {f : Addr} {Q : VK}
    (hS : Stable Pr) (G : GiveF X Ng x sg g bg a TT) (e0 : Env0 X.prog X.w X.K X.mg X.base X.A X.stack s H) (C : CellsAt X σ H s.heap) (hP : Pr H s.heap) (hr : Room (k + 2) X.A) (h9 : 9 ≤ k + 1) (la : LamAt X H f params body scope ds) (B : LamBP X Pr k params body scope ds t)
    (h : TT (fun E H' Q' => t E σ H' Q') H Q) : codeAny (model X.prog X.w) X.A (.call (.ref g) ⟨[.ref f], []⟩) (CR C8.CX0 X.stack X.prog X.w H s Q C8.E0) s := by
  obtain ⟨pg, dV, kV, doc, pm, cdv, ct, oc, an, od, osl, lk, hcg, hbi, hG⟩ := G.ex
  have kin : X.K.In s.heap := e0.mod.kin.keeps fun b o e => (e0.bs b o e).1
  refine run_ofS (N := Ng) (ps := [a]) (us := [.ref f]) (vs := [.ref f]) lk hcg G.Sg hr e0 (hbi s [.ref f] kin rfl) (.cons rfl .nil) rfl fun hr' => ?_
  exact hG f s H Q (fun E H' Q' => t E σ H' Q') (hr'.mono h9) (fun W pn xe pa pc tk => pe_act2P hS C hP la B tk hr' G.hN G.hv G.hd G.hcd) h
def tGiveP (X : Cx) (Pr : Hp → Heap → Prop) (k : Nat) (TT : (XK → Hp → VK → Prop) → Hp → VK → Prop) (ta : TA) (τ : L2.St → L2.St) : TE := fun σz H Q =>
  ta σz H fun vs H1 => ∃ (f : Addr) (params : Arguments) (body : Expr) (scope : Scope) (ds : List V) (t : XK → TE), vs = [.ref f] ∧ LamAt X H1 f params body scope ds ∧ LamBP X Pr k params body scope ds t ∧ TT (fun E H' Q' => t E (τ σz) H' Q') H1 Q
/-- x(e), e a lambda of the def that runs, which itself got a lambda -/
theorem pe_give2P {TT : (XK → Hp → VK → Prop) → Hp → VK → Prop} {x a : Str} {g : Addr} {k : Nat} {bg : List Stmt} {sg : Scope} {Ng : List Str} {e : Expr} {ta : TA} {p pos : Pos} (hS : Stable Pr) (hP : Pr X.H_0 X.s_0.heap) (hex : X.ex = []) (G : GiveF X Ng x sg g bg a TT) (hg : Gl X x) (hr : Room (k + 2) X.A) (h9 : 9 ≤ k + 1) (ha : PA X [e] ta)
    (hdb : (x == ("__debug__" : Str)) = false := by decide) (he : starEach [e] X.env = (false, eval e X.env) :: starEach [] X.env := by rfl) (hpl : (backTo pos (starEach [] X.env)).any (·.1) = false := by rfl) :
    PE X (.Call (.Name x p) [e] [] pos) (tGiveP X Pr k TT ta id) := by
  refine ⟨fun pins s σ H Q I h => ?_⟩
  refine wpAny_Call_Name_kw (ld_glob I hg G.hm ?_ hdb)
  refine PySem.W.callWith_K (h₀ := X.base) I.ok.mod.kin G.hk (thn (ha.run pos pins s σ H _ I h) fun us s1 ⟨vs, H1, I1, r, q⟩ => ⟨I1.kIn, ?_⟩) he hpl
  obtain ⟨f, params, body, scope, ds, t, rfl, la, B, q⟩ := q
  obtain ⟨u, rfl, ru⟩ := r.one
  obtain rfl : u = Value.ref f := ru
  have un := I1.base
  rw [hex] at un
  refine wpAny_call (codeAny_mono (give_runP hS G I1.env0 (.of I1) (hS _ _ _ _ _ un hP) hr h9 la B q) fun r sx hq => ?_)
  cases r with
  | error e => exact (show False from hq).elim
  | ok fl =>
    cases fl with
    | ret u => exact I1.after hq
    | next => exact False.elim hq
    | brk => exact False.elim hq
    | cont => exact False.elim hq
end
/-! ### the call of what was got, in a lambda of the def that got it -/
/-- a(), a: the name (at i) of a lambda of X -/
def tCap (X : Cx) (k : Nat) (σ0 : L2.St) (i : Nat) (E : XK) : TE := fun σz Hz Q =>
  ∃ (f : Addr) (params : Arguments) (body : Expr) (scope : Scope) (ds : List V) (t : XK → TE), σz[i]? = some (some (.ref f)) ∧ LamAt X Hz f params body scope ds ∧ LamB X k params body scope ds t ∧ t E σ0 Hz Q
theorem pe_cap {X : Cx} {sg : Scope} {g : Addr} {cdg : Value} {Ng : List Str} {qg a : Str} {s s1 : Shared} {H H1 : Hp} {σ0 : L2.St} {A : Around} {outer : List Env} {E E' : XK} {scope : Scope} {f' c' : Addr} {k i : Nat} {pa pc : Pos}
    (hC : CellsAt X σ0 H1 s1.heap) (hr : Room (k + 1) (A.deeper (lamEnv (cxOf C8.CX0 X.prog X.w X.K X.mg X.base Ng qg sg g cdg X.A X.stack s H C8.E0) scope s1.heap.objs.size f' c')))
    (hx : Passes (L2.CX X.prog X.w) (lamCx (cxOf C8.CX0 X.prog X.w X.K X.mg X.base Ng qg sg g cdg X.A X.stack s H C8.E0) A outer s1 H1 E scope f' c') E')
    (hN : Ng[i]? = some a) (hv : Vis scope a) (hd : (a == ("__debug__" : Str)) = false) (hcd : (a == ("__classdict__" : Str)) = false) :
    PE (lamCx (cxOf C8.CX0 X.prog X.w X.K X.mg X.base Ng qg sg g cdg X.A X.stack s H C8.E0) A outer s1 H1 E scope f' c') (.Call (.Name a pa) [] [] pc) (tCap X k σ0 i E') := by
  refine ⟨fun pz sz σz Hz Q Iz h => ?_⟩
  obtain ⟨f, params, body, sc, ds, t, hs, la, B, ht⟩ := h
  refine wpAny_Call_Name_kw (thn ((pe_var (pos := pa) (i := i) hN hv hd hcd).run pz sz σz Hz (fun v Hy => v = .ref f ∧ Hy = Hz) Iz ⟨.ref f, hs, rfl, rfl⟩) fun u sy ⟨v, Hy, Iy, ry, qy⟩ => ?_)
  obtain ⟨rfl, rfl⟩ := qy
  obtain rfl : u = Value.ref f := ry
  obtain ⟨c2, dV, hf, hc, hdd⟩ := id la
  obtain ⟨⟨doc, pm, ctv, lam⟩, _, _⟩ := Iy.hok f _ hf
  refine PySem.W.callWith_F0 ⟨_, _, _, _, lam⟩ ?_
  have un : Un (frs outer) [] H1 Hy s1.heap sy.heap := Iy.base
  have run := lam_run (X := X) (E := E') (Q := Q) Iy.env0 (hC.un un fun _ _ _ z => nomatch z) la B hr ht
  refine wpAny_call (codeAny_mono run fun r sx hq => ?_)
  cases r with
  | error e => exact hx _ _ _ _ _ _ Iy hq
  | ok fl =>
    cases fl with
    | ret u => exact Iy.after hq
    | next => exact False.elim hq
    | brk => exact False.elim hq
    | cont => exact False.elim hq
/-! ### the def itself -/
/-- what it makes of the lambda it gets, where that lambda's cells and object are known -/
def Gives3 (X : Cx) (k : Nat) (Ng : List Str) (x : Str) (sg : Scope) (g : Addr) (cdg : Value) (bg : List Stmt) (TT : (XK → Hp → VK → Prop) → Hp → VK → Prop) : Prop :=
  ∀ (f : Addr) (s : Shared) (H : Hp) (Q : VK) (σ : L2.St) (params : Arguments) (body : Expr) (scope : Scope) (ds : List V) (t : XK → TE), Room (k + 5) (X.A.deeper (envOfC x sg s.heap.objs.size g cdg)) → CellsAt X σ H s.heap → LamAt X H f params body scope ds → LamB X k params body scope ds t →
    TT (fun E H' Q' => t E σ H' Q') H Q → ∃ t', PSs (cxOf C8.CX0 X.prog X.w X.K X.mg X.base Ng x sg g cdg X.A X.stack s H C8.E0) bg t' ∧ t' { nx := fun _ H' => Q .non H', rt := Q } (L2.start Ng [.ref f]) H
structure GiveF3 (X : Cx) (k : Nat) (Ng : List Str) (x : Str) (sg : Scope) (g : Addr) (bg : List Stmt) (a : Str) (TT : (XK → Hp → VK → Prop) → Hp → VK → Prop) : Prop where
  hm : X.mg x = some (.ref g)
  hk : PySem.W.keepIn X.K (.ref g) = true
  ex : ∃ (pg : Arguments) (dV kV doc pm cdv ct oc : Value) (an od : Option Addr) (osl : Array (Option Value)), X.K.lookup g = some ⟨oc, od, .func (PySem.W.fnOf x x pg bg sg dV kV doc pm an cdv ct), osl⟩ ∧ PySem.W.codeIn X.K cdv x = true ∧
    L2.Binds X.K (PySem.W.fnOf x x pg bg sg dV kV doc pm an cdv ct) [a] [] ∧ Gives3 X k Ng x sg g cdv bg TT
  Sg : FnScope Ng [a] sg
section
variable {X : Cx}
theorem pe_give3 {TT : (XK → Hp → VK → Prop) → Hp → VK → Prop} {x a : Str} {g : Addr} {k : Nat} {bg : List Stmt} {sg : Scope} {Ng : List Str} {e : Expr} {ta : TA} {p pos : Pos} (G : GiveF3 X k Ng x sg g bg a TT) (hg : Gl X x) (hr : Room (k + 6) X.A) (ha : PA X [e] ta)
    (hdb : (x == ("__debug__" : Str)) = false := by decide) (he : starEach [e] X.env = (false, eval e X.env) :: starEach [] X.env := by rfl) (hpl : (backTo pos (starEach [] X.env)).any (·.1) = false := by rfl) :
    PE X (.Call (.Name x p) [e] [] pos) (tGive X k TT ta id) := by
  refine ⟨fun pins s σ H Q I h => ?_⟩
  refine wpAny_Call_Name_kw (ld_glob I hg G.hm ?_ hdb)
  refine PySem.W.callWith_K (h₀ := X.base) I.ok.mod.kin G.hk (thn (ha.run pos pins s σ H _ I h) fun us s1 ⟨vs, H1, I1, r, q⟩ => ⟨I1.kIn, ?_⟩) he hpl
  obtain ⟨f, params, body, scope, ds, t, rfl, la, B, q⟩ := q
  obtain ⟨u, rfl, ru⟩ := r.one
  obtain rfl : u = Value.ref f := ru
  obtain ⟨pg, dV, kV, doc, pm, cdv, ct, oc, an, od, osl, lk, hcg, hbi, hG⟩ := G.ex
  have e0 := I1.env0
  have kin : X.K.In s1.heap := e0.mod.kin.keeps fun b o e => (e0.bs b o e).1
  have run : codeAny (model X.prog X.w) X.A (.call (.ref g) ⟨[.ref f], []⟩) (CR C8.CX0 X.stack X.prog X.w H1 s1 Q C8.E0) s1 :=
    run_ofS (N := Ng) (ps := [a]) (us := [.ref f]) (vs := [.ref f]) lk hcg G.Sg hr e0 (hbi s1 [.ref f] kin rfl) (.cons rfl .nil) rfl fun hr' => hG f s1 H1 Q σ params body scope ds t hr' (.of I1) la B q
  refine wpAny_call (codeAny_mono run fun r sx hq => ?_)
  cases r with
  | error e => exact (show False from hq).elim
  | ok fl =>
    cases fl with
    | ret u => exact I1.after hq
    | next => exact False.elim hq
    | brk => exact False.elim hq
    | cont => exact False.elim hq
end
end Ru

set_option maxHeartbeats 4000000
/-! own operators: -a, a - b, a * n, a == b of a class's own defs -/
namespace Ru
open PySem PySem.Spec PyProof.Rows L2 StX
section
variable {X : Cx} {CX : CXT} {k : Nat} {f C : Addr} {fd : FuncData} {ps : List Str} {sp : Sp} {E : XK}
/-- -a -/
def rOwn1 (C : Addr) (sp : Sp) (E : XK) : V → Hp → VK → Prop := fun x H Q => ∃ a dx fs, x = .ref a ∧ H a = some (.ins C dx fs) ∧ sp [.ref a] H Q E
theorem un_ownNeg (mt : Meth X.K C "__neg__" f) (F : FnOk X.prog X.w X.K X.mg X.base CX k f fd ps sp) (hb : Binds X.K fd ps []) (hr : Room k X.A) (hx : Passes CX X E) : UnR X (unaryOp .USub) (rOwn1 C sp E) := by
  intro pins s σ H x v Q I rx h
  obtain ⟨a, dx, fs, rfl, ea, q⟩ := h
  obtain rfl : v = Value.ref a := rx
  obtain ⟨mA, J, _⟩ := ins_get I.hok ea
  obtain ⟨od, J, _⟩ := J.look
  obtain ⟨m, hF⟩ := I.fr
  exact PySem.W.ksp_neg hF I.ok.mod.kin J mt.at_ mt.fn (run_fn (us := [.ref a]) (vs := [.ref a]) F hr hb .nil hx I (.cons rfl .nil) q)
theorem op_ownSub (hm : mroHd X.K C = true) (mt : Meth X.K C "__sub__" f) (F : FnOk X.prog X.w X.K X.mg X.base CX k f fd ps sp) (hb : Binds X.K fd ps []) (hr : Room k X.A) (hx : Passes CX X E) : OpR X (binaryOp .Sub) (rOwnB C sp E) := by
  intro pins s σ H x y v u Q I rx ry h
  obtain ⟨a, dx, fs, b, dy, gs, rfl, rfl, ea, eb, q⟩ := h
  obtain rfl : v = Value.ref a := rx
  obtain rfl : u = Value.ref b := ry
  obtain ⟨oa, ha, hac⟩ := ins_obj I.hok ea
  obtain ⟨ob, hb', hbc⟩ := ins_obj I.hok eb
  unfold binaryOp
  refine wpAny_holding (wpAny_bind (bin1_own (nm := "sub") (C := C) (f := f) I.kIn hm ha hac hb' hbc mt.at_ mt.fn ?_))
  refine thn (run_fn (us := [.ref a, .ref b]) (vs := [.ref a, .ref b]) F hr hb .nil hx I (.cons rfl (.cons rfl .nil)) q) fun v s' e => ?_
  have ev := e
  obtain ⟨vv, H', I', rv, _⟩ := e
  exact ⟨relV_ni rv, wpAny_pure ev⟩
/-- what a * n asks of the class -/
structure MulC (K : PySem.W.Frag) (C f : Addr) : Prop where
  hc : PySem.W.selfFirst K C = true
  hs : PySem.W.findIn K (.ref C) (PySem.dunder "mul") = some (some (.ref f))
  hf : PySem.W.isFn K (.ref f) = true
  hr : PySem.W.findIn K (.ref C) (dunderR "mul") = some none
  h1 : ∃ fo, PySem.W.findIn K (.type "int") (PySem.dunder "mul") = some fo
  h2 : ∃ ro, PySem.W.findIn K (.type "int") (dunderR "mul") = some ro
  hsub : PySem.W.subIn K (.type "int") (.ref C) = some false
/-- a * n -/
def rOwnI (C : Addr) (sp : Sp) (E : XK) : R2 := fun x y H Q => ∃ a dx fs n, x = .ref a ∧ y = .int n ∧ H a = some (.ins C dx fs) ∧ sp [.ref a, .int n] H Q E
theorem op_ownMul (mc : MulC X.K C f) (F : FnOk X.prog X.w X.K X.mg X.base CX k f fd ps sp) (hb : Binds X.K fd ps []) (hr : Room k X.A) (hx : Passes CX X E) : OpR X (binaryOp .Mult) (rOwnI C sp E) := by
  intro pins s σ H x y v u Q I rx ry h
  obtain ⟨a, dx, fs, n, rfl, rfl, ea, q⟩ := h
  obtain rfl : v = Value.ref a := rx
  obtain ⟨t, rfl⟩ := (show ∃ t, u = Value.int n t from ry)
  obtain ⟨mA, J, _⟩ := ins_get I.hok ea
  obtain ⟨od, J, _⟩ := J.look
  obtain ⟨m, hF⟩ := I.fr
  obtain ⟨fo, h1⟩ := mc.h1
  obtain ⟨ro, h2⟩ := mc.h2
  refine PySem.W.ksp_binT (T := "int") hF I.ok.mod.kin J rfl mc.hc mc.hs mc.hf mc.hr (.inl rfl) h1 h2 mc.hsub ?_
  refine thn (run_fn (us := [.ref a, .int n t]) (vs := [.ref a, .int n]) F hr hb .nil hx I (.cons rfl (.cons ⟨t, rfl⟩ .nil)) q) fun v s' z => ?_
  obtain ⟨z', H', I', rz, qz⟩ := z
  exact SlX.cmpback rz ⟨z', H', I', rz, qz⟩
/-- what a == b asks of the class -/
structure EqC (K : PySem.W.Frag) (C f : Addr) : Prop where
  hs : PySem.W.findIn K (.ref C) "__eq__" = some (some (.ref f))
  hf : PySem.W.isFn K (.ref f) = true
  n1 : PySem.W.notFirst K C (.ref C) = true
  n2 : PySem.W.notFirst K C (.type "int") = true
/-- a == b, b of the class or a whole number -/
def rOwnQ (C : Addr) (sp : Sp) (E : XK) : R2 := fun x y H Q => ∃ a dx fs, x = .ref a ∧ H a = some (.ins C dx fs) ∧ ((∃ b dy gs, y = .ref b ∧ H b = some (.ins C dy gs)) ∨ ∃ n, y = .int n) ∧ sp [x, y] H Q E
theorem op_ownEq (mc : EqC X.K C f) (F : FnOk X.prog X.w X.K X.mg X.base CX k f fd ps sp) (hb : Binds X.K fd ps []) (hr : Room k X.A) (hx : Passes CX X E) : OpR X (compareOp .Eq) (rOwnQ C sp E) := by
  intro pins s σ H x y v u Q I rx ry h
  obtain ⟨a, dx, fs, rfl, ea, alt, q⟩ := h
  obtain rfl : v = Value.ref a := rx
  obtain ⟨mA, J, _⟩ := ins_get I.hok ea
  obtain ⟨od, J, _⟩ := J.look
  obtain ⟨m, hF⟩ := I.fr
  have go : ∀ tb : Value, PySem.W.Looks (model X.prog X.w) s.heap (typeOf u) tb → PySem.W.notFirst X.K C tb = true → wpAny (model X.prog X.w) X.A (richCompare .Eq (.ref a) u) (EP X pins σ Q) X.xe s := fun tb ht hn => by
    refine PySem.W.cmp_K (op := .Eq) (tb := tb) hr.units0 hF I.ok.mod.kin J ht hn mc.hs mc.hf ?_
    refine thn (run_fn (us := [.ref a, u]) (vs := [.ref a, y]) F hr hb .nil hx I (.cons rfl (.cons ry .nil)) q) fun v s' z => ?_
    obtain ⟨z', H', I', rz, qz⟩ := z
    exact SlX.cmpback rz ⟨z', H', I', rz, qz⟩
  show wpAny _ _ (richCompare .Eq (.ref a) u) _ _ _
  rcases alt with ⟨b, dy, gs, rfl, eb⟩ | ⟨n, rfl⟩
  · obtain rfl : u = Value.ref b := ry
    obtain ⟨mB, J', _⟩ := ins_get I.hok eb
    obtain ⟨od', J', _⟩ := J'.look
    exact go _ J'.type mc.n1
  · obtain ⟨t, rfl⟩ := (show ∃ t, u = Value.int n t from ry)
    exact go (.type "int") (PySem.W.Looks.of_pure rfl) mc.n2
end
end Ru

namespace Ru
open PySem PySem.Spec PyProof.Rows L2
/-! RuP: parts and sums of tuples, whatever they are -/
section
variable {K : PySem.W.Frag} {H : Hp} {p q : Addr} {cs : List Int} {i : Nat} {Q : VK}
theorem updS {o : HO} : upd H p o p = some o := by
  show (if p = p then some o else H p) = some o
  rw [if_pos rfl]
theorem take_min (i : Nat) (l : List Int) : l.take (min i l.length) = l.take i := by
  rcases Nat.le_total i l.length with h | h
  · rw [Nat.min_eq_left h]
  · rw [Nat.min_eq_right h, List.take_length, List.take_of_length_le h]
theorem cutPre : cutV (cs.map V.int) none (some (i : Int)) = (cs.take i).map V.int := by
  unfold cutV
  rw [HT.sIx_none, HT.sIx_nat, List.length_map, List.drop_zero, Nat.sub_zero, ← take_min, List.map_take]
theorem cutPost (h : i ≤ cs.length) : cutV (cs.map V.int) (some (i : Int)) none = (cs.drop i).map V.int := by
  unfold cutV
  rw [HT.sIx_none, HT.sIx_nat, List.length_map, Nat.min_eq_left h, List.map_drop, List.take_of_length_le]
  rw [List.length_drop, List.length_map]
  exact Nat.le_refl _
/-- t[:i] -/
theorem slPre (hp : H p = some (.tup (cs.map V.int))) (k : ∀ r H', Same H H' → H' r = some (.tup ((cs.take i).map V.int)) → Q (.ref r) H') : rSlA K (.ref p) none (some (i : Int)) H Q := by
  refine ⟨p, _, rfl, SqT.of hp, fun z => ?_, fun _ r hr => ?_⟩
  · obtain ⟨_, z⟩ := z
    rw [HT.sIx_nat, List.length_map] at z
    refine k _ _ (Same.refl _) ?_
    rw [← take_min, z, List.take_length]; exact hp
  · rw [cutPre]
    exact k _ _ (sameU hr) updS
/-- t[i:] -/
theorem slPost (hp : H p = some (.tup (cs.map V.int))) (h : i ≤ cs.length) (k : ∀ r H', Same H H' → H' r = some (.tup ((cs.drop i).map V.int)) → Q (.ref r) H') : rSlA K (.ref p) (some (i : Int)) none H Q := by
  refine ⟨p, _, rfl, SqT.of hp, fun z => ?_, fun _ r hr => ?_⟩
  · obtain ⟨z, _⟩ := z
    rw [HT.sIx_nat, List.length_map, Nat.min_eq_left h] at z
    refine k _ _ (Same.refl _) ?_
    rw [z, List.drop_zero]; exact hp
  · rw [cutPost h]
    exact k _ _ (sameU hr) updS
/-- t + u -/
theorem catAny {xs ys : List V} (hp : H p = some (.tup xs)) (hq : H q = some (.tup ys)) (hz : xs.length + ys.length ≤ sizeLine) (k : ∀ r H', Same H H' → H' r = some (.tup (xs ++ ys)) → Q (.ref r) H') : rCatA K (.ref p) (.ref q) H Q := by
  refine ⟨p, q, xs, ys, rfl, rfl, SqT.of hp, SqT.of hq, hz, fun e => ?_, fun _ e => ?_, fun _ _ r hr => k _ _ (sameU hr) updS⟩
  · refine k _ _ (Same.refl _) ?_
    rw [e, List.nil_append]; exact hq
  · refine k _ _ (Same.refl _) ?_
    rw [e, List.append_nil]; exact hp
end
end Ru

namespace W6
open PySem PySem.Spec PyProof.Rows L2 Ru StX LamX
theorem log_small {i : Nat} (h : i ≤ 1000) : (i : Int).natAbs.log2 < 1920 := by
  have e : (i : Int).natAbs = i := rfl
  rw [e]
  by_cases z : i = 0
  · subst z; decide
  · exact (Nat.log2_lt z).mpr (Nat.lt_of_le_of_lt h (Nat.lt_of_lt_of_le (by decide : 1000 < 2 ^ 10) (Nat.pow_le_pow_right (by decide) (by decide))))
def rLenS (K : PySem.W.Frag) : List V → Hp → VK → Prop := fun xs H Q => ∃ p ys, xs = [.ref p] ∧ (SqL K H p ys ∨ SqT K H p ys) ∧ Q (.int ys.length) H
/-- the sums of two weathers' changes -/
def addR (cs ds : List Int) : List Int := (List.range (Nat.lcm cs.length ds.length)).map fun t => cs.getD (t % cs.length) 0 + ds.getD (t % ds.length) 0
def spAddR : Sp := fun vs H Q _ => ∃ (t u : Addr) (cs ds : List Int), vs = [.ref t, .ref u] ∧ H t = some (.tup (cs.map V.int)) ∧ H u = some (.tup (ds.map V.int)) ∧ 1 ≤ cs.length ∧ cs.length ≤ 24 ∧ 1 ≤ ds.length ∧ ds.length ≤ 24 ∧
  ∀ p H', Same H H' → H' p = some (.lst ((addR cs ds).map V.int)) → Q (.ref p) H'
theorem at_mod (cs : List Int) (i : Nat) (c1 : 1 ≤ cs.length) : atI (cs.map V.int) ((0 + (i : Int)) % (((cs.map V.int).length : Nat) : Int)) = some (V.int (cs.getD (i % cs.length) 0)) := by
  have e : (0 + (i : Int)) % (((cs.map V.int).length : Nat) : Int) = ((i % cs.length : Nat) : Int) := by
    rw [List.length_map, Int.zero_add]
    rfl
  rw [e]
  have l : i % cs.length < cs.length := Nat.mod_lt _ (by omega)
  refine at_int (Int.natCast_nonneg _) ?_
  show (cs.map V.int)[i % cs.length]? = _
  rw [List.getElem?_map, List.getElem?_eq_getElem l]
  simp [List.getD, List.getElem?_eq_getElem l]
theorem lcStep' {H H' : Hp} {D : Addr} {o : HO} (hD : H D = none) (s : Same H H') : Same H (upd H' D o) := fun b u e => by
  rw [upd_ne (ne_of_none e hD)]; exact s _ _ e
/-- a list so many times -/
def rep (k : Nat) (cs : List Int) : List Int := (List.replicate k cs).flatten
def SameW (cs ds : List Int) : Prop := rep (Nat.lcm cs.length ds.length / cs.length) cs = rep (Nat.lcm cs.length ds.length / ds.length) ds
/-- amounts of ticks -/
def AM (cs : List Int) : Prop := 1 ≤ cs.length ∧ cs.length ≤ 24 ∧ ∀ c ∈ cs, -1000000 ≤ c ∧ c ≤ 1000000
theorem sum_bd6 : ∀ {cs : List Int}, (∀ c ∈ cs, -1000000 ≤ c ∧ c ≤ 1000000) → -(1000000 * (cs.length : Int)) ≤ cs.sum ∧ cs.sum ≤ 1000000 * (cs.length : Int)
  | [], _ => by simp
  | c :: r, h => by
    have h1 := h c List.mem_cons_self
    have h2 := sum_bd6 (cs := r) (fun x hx => h x (List.mem_cons_of_mem _ hx))
    simp only [List.sum_cons, List.length_cons]
    omega
def spSof : Sp := fun vs H Q _ => ∃ (t : Addr) (cs : List Int) (n : Nat), vs = [.ref t, .int n] ∧ H t = some (.tup (cs.map V.int)) ∧ AM cs ∧ ∀ H', Same H H' → Q (.int (Th.sumTo cs 0 n)) H'
def spSame : Sp := fun vs H Q _ => ∃ (t u : Addr) (cs ds : List Int), vs = [.ref t, .ref u] ∧ H t = some (.tup (cs.map V.int)) ∧ H u = some (.tup (ds.map V.int)) ∧ 1 ≤ cs.length ∧ cs.length ≤ 24 ∧ 1 ≤ ds.length ∧ ds.length ≤ 24 ∧
  ∀ b H', Same H H' → (b = true ↔ SameW cs ds) → Q (.bl b) H'
theorem cut_pre {cs : List Int} {i : Nat} (h : i ≤ cs.length) : cutV (cs.map V.int) none (some (i : Int)) = (cs.take i).map V.int := by
  unfold cutV
  rw [HT.sIx_none, HT.sIx_nat, List.length_map, Nat.min_eq_left h, List.drop_zero, Nat.sub_zero, List.map_take]
theorem cut_post {cs : List Int} {i : Nat} (h : i ≤ cs.length) : cutV (cs.map V.int) (some (i : Int)) none = (cs.drop i).map V.int := by
  unfold cutV
  rw [HT.sIx_none, HT.sIx_nat, List.length_map, Nat.min_eq_left h, List.map_drop, List.take_of_length_le]
  rw [List.length_drop, List.length_map]
  exact Nat.le_refl _
theorem lay_ints : ∀ ns : List Int, PyData.canLayAll0 (ns.map PyData.int) = true
  | [] => rfl
  | n :: r => by
    rw [List.map_cons, PyData.canLayAll0, lay_ints r]
    rfl
theorem dep_ints : ∀ ns : List Int, PyData.depthAll (ns.map PyData.int) = 0
  | [] => by simp [PyData.depthAll]
  | n :: r => by
    have e : PyData.depthAll ((n :: r).map PyData.int) = max (PyData.depth (.int n)) (PyData.depthAll (r.map PyData.int)) := rfl
    rw [e, dep_ints r]
    simp [PyData.depth]
theorem sh_intsT (ns : List Int) : SeqAt.shaped (.tuple (ns.map PyData.int)) = true := by
  unfold SeqAt.shaped
  rw [Bool.and_eq_true]
  refine ⟨lay_ints ns, decide_eq_true ?_⟩
  show PyData.depthAll (ns.map PyData.int) + 1 ≤ 64
  rw [dep_ints]; omega
theorem repA_of {K : PySem.W.Frag} {l : Addr} {xs : List V} {k : Nat} {H : Hp} {Q : VK} (hx : H l = some (.tup xs)) (ne : 1 ≤ xs.length) (k1 : 1 ≤ k) (k2 : k ≤ 1000) (hz : xs.length ≤ 1000) (g : ∀ p H', Same H H' → H' p = some (.tup (List.replicate k xs).flatten) → Q (.ref p) H') : rRepA K (.ref l) (.int k) H Q := by
  by_cases e : k = 1
  · subst e
    exact .inr ⟨l, xs, rfl, rfl, SqT.of hx, g l H (Same.refl _) (by rw [hx]; simp)⟩
  · exact .inl ⟨l, k, xs, rfl, rfl, SqT.of hx, fun z => by rw [z] at ne; exact absurd ne (by decide), by omega, by omega, hz, fun p hp => g p _ (same_upd hp) upd_same⟩
theorem rep_map (k : Nat) (cs : List Int) : (List.replicate k (cs.map V.int)).flatten = (rep k cs).map V.int := by
  unfold rep
  rw [List.map_flatten, List.map_replicate]
/-! ### the same in all ticks -/
theorem chAt_mod (cs : List Int) (t m : Nat) (h : cs.length ∣ m) : Th.chAt cs (t % m) = Th.chAt cs t := by
  unfold Th.chAt
  rw [Nat.mod_mod_of_dvd _ h]
theorem chAt_lt {cs : List Int} {t : Nat} (h : t < cs.length) : cs[t]? = some (Th.chAt cs t) := by
  unfold Th.chAt
  rw [Nat.mod_eq_of_lt h, List.getD_eq_getElem?_getD, List.getElem?_eq_getElem h]
  rfl
theorem chAt_sub {cs : List Int} {t : Nat} (h : cs.length ≤ t) : Th.chAt cs (t - cs.length) = Th.chAt cs t := by
  unfold Th.chAt
  rw [Nat.mod_eq_sub_mod h]
theorem rep_succ (k : Nat) (cs : List Int) : rep (k + 1) cs = cs ++ rep k cs := by
  unfold rep
  rw [List.replicate_succ, List.flatten_cons]
theorem rep_len (cs : List Int) : ∀ k : Nat, (rep k cs).length = k * cs.length
  | 0 => by simp [rep]
  | k + 1 => by rw [rep_succ, List.length_append, rep_len cs k, Nat.succ_mul]; omega
theorem rep_at (cs : List Int) : ∀ k t : Nat, t < k * cs.length → (rep k cs)[t]? = some (Th.chAt cs t)
  | 0, t, h => by simp at h
  | k + 1, t, h => by
    rw [rep_succ]
    rcases Nat.lt_or_ge t cs.length with l | l
    · rw [List.getElem?_append_left l, chAt_lt l]
    · rw [List.getElem?_append_right l, rep_at cs k (t - cs.length) (by rw [Nat.succ_mul] at h; omega), chAt_sub l]
theorem sameW_iff {cs ds : List Int} (h1 : 1 ≤ cs.length) (h2 : 1 ≤ ds.length) : SameW cs ds ↔ ∀ t, t < Nat.lcm cs.length ds.length → Th.chAt cs t = Th.chAt ds t := by
  have d1 : Nat.lcm cs.length ds.length / cs.length * cs.length = Nat.lcm cs.length ds.length := Nat.div_mul_cancel (Nat.dvd_lcm_left _ _)
  have d2 : Nat.lcm cs.length ds.length / ds.length * ds.length = Nat.lcm cs.length ds.length := Nat.div_mul_cancel (Nat.dvd_lcm_right _ _)
  unfold SameW
  constructor
  · intro e t ht
    have a1 := rep_at cs (Nat.lcm cs.length ds.length / cs.length) t (by omega)
    have a2 := rep_at ds (Nat.lcm cs.length ds.length / ds.length) t (by omega)
    rw [e, a2] at a1
    exact (Option.some.inj a1).symm
  · intro e
    refine List.ext_getElem? fun t => ?_
    rcases Nat.lt_or_ge t (Nat.lcm cs.length ds.length) with l | l
    · rw [rep_at cs _ t (by omega), rep_at ds _ t (by omega), e t l]
    · rw [List.getElem?_eq_none (by rw [rep_len]; omega), List.getElem?_eq_none (by rw [rep_len]; omega)]
theorem sameW_all {cs ds : List Int} (h1 : 1 ≤ cs.length) (h2 : 1 ≤ ds.length) {m : Nat} (hm : Nat.lcm cs.length ds.length ≤ m) : SameW cs ds ↔ ∀ t, t < m → Th.chAt cs t = Th.chAt ds t := by
  rw [sameW_iff h1 h2]
  have lp : 0 < Nat.lcm cs.length ds.length := Nat.lcm_pos (by omega) (by omega)
  exact ⟨fun h t _ => by rw [← chAt_mod cs t _ (Nat.dvd_lcm_left cs.length ds.length), ← chAt_mod ds t _ (Nat.dvd_lcm_right cs.length ds.length)]; exact h _ (Nat.mod_lt _ lp), fun h t ht => h t (by omega)⟩
theorem sum_chAt (cs : List Int) : ∀ n : Nat, ((List.range n).map fun t => Th.chAt cs t).sum = Th.sumTo cs 0 n
  | 0 => rfl
  | n + 1 => by
    rw [List.range_succ, List.map_append, List.sum_append, sum_chAt cs n]
    show _ = Th.sumTo cs 0 n + Th.chAt cs n + 0
    simp
section
variable {P : Program} {w : World} {K : PySem.W.Frag} {mg : Str → Option Value} {base : Heap} {a : Ad}
theorem addR_len (cs ds : List Int) : (addR cs ds).length = Nat.lcm cs.length ds.length := by rw [addR, List.length_map, List.length_range]
theorem ok_sum_of_first (T : Txt K mg a) : FnOk P w K mg base CX0 1 a.f_sum_of_first a.d_sum_of_first ["values", "count"] spSof := by
  refine T.F_sum_of_first.ok sc_sum_of_first (fun vs H Q E h => ?_) (fun cdv A outer s H vs Q E hr h => ?_)
  · obtain ⟨t, cs, n, rfl, _⟩ := h
    rfl
  · obtain ⟨t, cs, n, rfl, ht, ⟨c1, c2, c3⟩, k⟩ := h
    refine ⟨_, (pss_cons (ps_asg (pe_callB call_divmod (by rfl) T.z_divmod (by decide +kernel) (pa_cons (pv 1) (pa_cons (pe_callB call_len_seq (by rfl) T.z_len PySem.boot_len (pa_cons (pv 0) pa_nil)) pa_nil))) (pg_tup rfl (pgs_cons (pg_name (i := 2) sc_sum_of_first.nd rfl (Or.inl rfl)) (pgs_cons (pg_name (i := 3) sc_sum_of_first.nd rfl (Or.inl rfl)) pgs_nil))))
      (pss_one (ps_ret (pe_op op_add (pe_op op_mul (pv 2) (pe_callB (cr_sumT rfl) (by rfl) T.z_sum (by decide +kernel) (pa_cons (pv 0) pa_nil))) (pe_callB (show CallR _ (.builtin "sum") (rSumT K) from cr_sumT rfl) (by rfl) T.z_sum (by decide +kernel) (pa_cons (pe_slice (show SlR _ (rSlA K) from sl_tupA) (pv 0) po_none (po_some (pv 3))) pa_nil)))))), ?_⟩
    have sb := sum_bd6 c3
    have ln : (cs.map V.int).length = cs.length := List.length_map _
    refine ⟨_, rfl, _, rfl, t, _, rfl, .inr (SqT.of ht), _, _, rfl, ⟨show (0 : Int) < (((cs.map V.int).length : Nat) : Int) by rw [ln]; omega, show (((cs.map V.int).length : Nat) : Int) < 1073741824 by rw [ln]; omega⟩, fun p hp => ?_⟩
    rw [ln]
    have em : (n : Int) % ((cs.length : Nat) : Int) = ((n % cs.length : Nat) : Int) := rfl
    have ml := Nat.mod_lt n (show 0 < cs.length by omega)
    have sm := same_upd (o := .tup [.int ((n : Int) / (cs.length : Int)), .int ((n : Int) % (cs.length : Int))]) hp
    have ht2 := sm _ _ ht
    refine ⟨p, _, rfl, SqT.of upd_same, rfl, _, _, rfl, _, _, rfl, rfl, ?_⟩
    refine ⟨_, rfl, _, rfl, t, cs, rfl, SqT.of ht2, _, _, rfl, rfl, .inr ⟨by omega, by omega⟩, _, rfl, _, rfl, ((n % cs.length : Nat) : Int), rfl, t, _, rfl, SqT.of ht2, fun q => ?_, fun _ q hq => ?_⟩
    · rw [HT.sIx_nat, ln] at q
      omega
    · refine ⟨q, cs.take (n % cs.length), rfl, SqT.of (by rw [upd_same, cut_pre (by omega)]), _, _, rfl, rfl, ?_⟩
      have e : Th.sumTo cs 0 n = (n : Int) / ((cs.length : Nat) : Int) * cs.sum + (cs.take (n % cs.length)).sum := by
        rw [Th.sumTo_eq c1 n]
        unfold Th.rsum Th.pre
        rw [Int.zero_mul, Int.add_zero, Int.zero_mul, Int.add_zero]; rfl
      have kk := k _ (sm.trans (same_upd (o := .tup (cutV (cs.map V.int) none (some ((n % cs.length : Nat) : Int)))) hq))
      rw [e] at kk
      exact kk
theorem ok_same_rounds (T : Txt K mg a) : FnOk P w K mg base CX0 1 a.f_same_rounds a.d_same_rounds ["one", "other"] spSame := by
  refine T.F_same_rounds.ok sc_same_rounds (fun vs H Q E h => ?_) (fun cdv A outer s H vs Q E hr h => ?_)
  · obtain ⟨t, u, cs, ds, rfl, _⟩ := h
    rfl
  · obtain ⟨t, u, cs, ds, rfl, ht, hu, c1, c2, d1, d2, k⟩ := h
    refine ⟨_, (pss_cons (ps_set (i := 2) sc_same_rounds.nd rfl (Or.inl rfl) (pe_callBfun cr_lcm (by rfl) T.mg_lcm (pa_cons (pe_callB (show CallR _ (.builtin "len") (rLenS K) from call_len_seq) (by rfl) T.z_len PySem.boot_len (pa_cons (pv 0) pa_nil)) (pa_cons (pe_callB (show CallR _ (.builtin "len") (rLenS K) from call_len_seq) (by rfl) T.z_len PySem.boot_len (pa_cons (pv 1) pa_nil)) pa_nil))))
      (pss_one (ps_ret (pe_cmpR (op_eqD hr.units) (pe_op op_repA (pv 0) (pe_op op_fdivW (pv 2) (pe_callB (show CallR _ (.builtin "len") (rLenS K) from call_len_seq) (by rfl) T.z_len PySem.boot_len (pa_cons (pv 0) pa_nil)))) (pe_op op_repA (pv 1) (pe_op op_fdivW (pv 2) (pe_callB (show CallR _ (.builtin "len") (rLenS K) from call_len_seq) (by rfl) T.z_len PySem.boot_len (pa_cons (pv 1) pa_nil)))) (nomark _))))), ?_⟩
    have n1 : (cs.map V.int).length = cs.length := List.length_map _
    have n2 : (ds.map V.int).length = ds.length := List.length_map _
    have lcd : Nat.lcm cs.length ds.length ≤ 24 * 24 := Nat.le_trans (Nat.lcm_le_mul (by omega) (by omega)) (Nat.mul_le_mul c2 d2)
    refine ⟨_, rfl, t, _, rfl, .inr (SqT.of ht), _, rfl, u, _, rfl, .inr (SqT.of hu), (cs.map V.int).length, (ds.map V.int).length, rfl, by omega, by omega, ?_⟩
    rw [n1, n2]
    have lp : 1 ≤ Nat.lcm cs.length ds.length := Nat.lcm_pos (by omega) (by omega)
    have q1 : 1 ≤ Nat.lcm cs.length ds.length / cs.length := Nat.div_pos (Nat.le_of_dvd lp (Nat.dvd_lcm_left _ _)) (by omega)
    have q2 : 1 ≤ Nat.lcm cs.length ds.length / ds.length := Nat.div_pos (Nat.le_of_dvd lp (Nat.dvd_lcm_right _ _)) (by omega)
    have q3 := Nat.div_le_self (Nat.lcm cs.length ds.length) cs.length
    have q4 := Nat.div_le_self (Nat.lcm cs.length ds.length) ds.length
    refine ⟨_, rfl, _, rfl, _, rfl, t, _, rfl, .inr (SqT.of ht), _, _, rfl, rfl, ⟨by rw [n1]; omega, Nat.lt_trans (log_small (i := (cs.map V.int).length) (by omega)) (by decide)⟩, ?_⟩
    rw [n1]
    refine repA_of (k := Nat.lcm cs.length ds.length / cs.length) ht (by omega) q1 (by omega) (by omega) fun p1 H1 s1 hp1 => ?_
    have hu1 := s1 _ _ hu
    refine ⟨_, rfl, _, rfl, _, rfl, u, _, rfl, .inr (SqT.of hu1), _, _, rfl, rfl, ⟨by rw [n2]; omega, Nat.lt_trans (log_small (i := (ds.map V.int).length) (by omega)) (by decide)⟩, ?_⟩
    rw [n2]
    refine repA_of (k := Nat.lcm cs.length ds.length / ds.length) hu1 (by omega) q2 (by omega) (by omega) fun p2 H2 s2 hp2 => ?_
    rw [rep_map] at hp1 hp2
    refine ⟨.tuple ((rep (Nat.lcm cs.length ds.length / cs.length) cs).map PyData.int), .tuple ((rep (Nat.lcm cs.length ds.length / ds.length) ds).map PyData.int), .tup (SqT.of (s2 _ _ hp1)) (dp_ints _), .tup (SqT.of hp2) (dp_ints _), sh_intsT _, sh_intsT _, ?_⟩
    refine k _ _ (s1.trans s2) ?_
    have e : PyData.eqv (.tuple ((rep (Nat.lcm cs.length ds.length / cs.length) cs).map PyData.int)) (.tuple ((rep (Nat.lcm cs.length ds.length / ds.length) ds).map PyData.int)) = decide (rep (Nat.lcm cs.length ds.length / cs.length) cs = rep (Nat.lcm cs.length ds.length / ds.length) ds) := by
      rw [PyData.eqv, eqvA_ints]
    rw [e, decide_eq_true_iff]
    exact Iff.rfl
end
end W6

namespace W6
open PySem PySem.Spec PyProof.Rows L2 Ru StX LamX
theorem seq_if {c : TT} {A u : TS} {D : Ends} {σ : L2.St} {H : Hp} (C : L2.St → Hp → Prop) (h1 : ∀ D' : Ends, (∀ σ H, C σ H → D'.nx σ H) → tIfS c A tNext D' σ H) (h2 : ∀ σ H, C σ H → u D σ H) : tSeq (tIfS c A tNext) u D σ H := h1 _ h2
theorem g_if {i : Nat} {v : V} {c : TT} {A u : TS} {D : Ends} {σ : L2.St} {H : Hp} (C : L2.St → Hp → Prop) (h1 : ∀ D' : Ends, (∀ σ H, C σ H → D'.nx σ H) → tIfS c A tNext D' (σ.set i (some v)) H) (h2 : ∀ σ H, C σ H → u D σ H) : gName i v σ H (tSeq (tIfS c A tNext) u D) := h1 _ h2
theorem g_asg {i : Nat} {v : V} {te : TE} {g : TG} {u : TS} {D : Ends} {σ : L2.St} {H : Hp} (C : V → Hp → Prop) (h1 : ∀ Q7 : VK, (∀ w H', C w H' → Q7 w H') → te (σ.set i (some v)) H Q7) (h2 : ∀ w H', C w H' → g w (σ.set i (some v)) H' (u D)) : gName i v σ H (tSeq (tAsg te g) u D) := h1 _ h2
theorem seq_asg {te : TE} {g : TG} {u : TS} {D : Ends} {σ : L2.St} {H : Hp} (C : V → Hp → Prop) (h1 : ∀ Q7 : VK, (∀ w H', C w H' → Q7 w H') → te σ H Q7) (h2 : ∀ w H', C w H' → g w σ H' (u D)) : tSeq (tAsg te g) u D σ H := h1 _ h2
theorem pow12 : (10 : Int) ^ (12 : Int).toNat = 1000000000000 := by decide
theorem pow18 : (10 : Int) ^ (18 : Int).toNat = 1000000000000000000 := by decide
theorem tnext {D : Ends} {σ : L2.St} {H : Hp} (h : D.nx σ H) : tNext D σ H := h
theorem seq_par {ta : TA} {i j : Nat} {u : TS} {D : Ends} {σ : L2.St} {H : Hp} (C : V → V → Hp → Prop) (h1 : ∀ Q7 : List V → Hp → Prop, (∀ v w H', C v w H' → Q7 [v, w] H') → ta σ H Q7) (h2 : ∀ v w H', C v w H' → u D ((σ.set i (some v)).set j (some w)) H') : tSeq (tPar i j ta) u D σ H :=
  h1 (fun vs H1 => ∃ v w, vs = [v, w] ∧ u D ((σ.set i (some v)).set j (some w)) H1) fun v w H' c => ⟨v, w, rfl, h2 v w H' c⟩
theorem pickI {es : List Int} {r : Int} (h0 : 0 ≤ r) (h1 : r < (es.length : Int)) : ∃ e, e ∈ es ∧ atI (es.map V.int) r = some (.int e) := by
  obtain ⟨n, rfl⟩ : ∃ n : Nat, r = n := ⟨r.toNat, by omega⟩
  have hn : n < es.length := by omega
  exact ⟨es[n], List.getElem_mem hn, atI_nat (by rw [List.getElem?_map, List.getElem?_eq_getElem hn]; rfl)⟩
theorem seq_ife {c : TT} {A B u : TS} {D : Ends} {σ : L2.St} {H : Hp} (C : L2.St → Hp → Prop) (h1 : ∀ D' : Ends, (∀ σ H, C σ H → D'.nx σ H) → tIfS c A B D' σ H) (h2 : ∀ σ H, C σ H → u D σ H) : tSeq (tIfS c A B) u D σ H := h1 _ h2
theorem dl_two {H : Hp} {p q D : Addr} {r t : List V} (hp : H p = some (.tup r)) (hq : H q = some (.tup t)) (hD : H D = some (.lst [.ref p, .ref q])) : DL H D [r, t] := ⟨[p, q], hD, rfl, fun m u v a b => match m, a, b with | 0, a, b => by cases a; cases b; exact hp | 1, a, b => by cases a; cases b; exact hq⟩
theorem dl_rep {H : Hp} {p D : Addr} {r : List V} {n : Nat} (hp : H p = some (.tup r)) (hD : H D = some (.lst (List.replicate n (.ref p)))) : DL H D (List.replicate n r) := ⟨List.replicate n p, by rw [List.map_replicate]; exact hD, by rw [List.length_replicate, List.length_replicate], fun m u v a b => by
  have h1 := List.mem_of_getElem? a
  have h2 := List.mem_of_getElem? b
  rw [List.mem_replicate] at h1 h2
  rw [h1.2, h2.2]; exact hp⟩
theorem if_op {r : L2.R2} {te tr : TE} {A B : TS} {D : Ends} {σ : L2.St} {H : Hp} (h : te σ H fun x H1 => tr σ H1 fun y H2 => r x y H2 fun v H3 => ∃ b, v = .bl b ∧ if b = true then A D σ H3 else B D σ H3) : tIfS (tTest (tOp r te tr)) A B D σ H := h
theorem g_ifop {i : Nat} {v : V} {r : L2.R2} {te tr : TE} {A B : TS} {D : Ends} {σ : L2.St} {H : Hp} (h : te (σ.set i (some v)) H fun x H1 => tr (σ.set i (some v)) H1 fun y H2 => r x y H2 fun w H3 => ∃ b, w = .bl b ∧ if b = true then A D (σ.set i (some v)) H3 else B D (σ.set i (some v)) H3) : gName i v σ H (tIfS (tTest (tOp r te tr)) A B D) := h
theorem g_unf {i : Nat} {v : V} {te : TE} {g : TG} {u : TS} {D : Ends} {σ : L2.St} {H : Hp} (h : te (σ.set i (some v)) H fun w H' => g w (σ.set i (some v)) H' (u D)) : gName i v σ H (tSeq (tAsg te g) u D) := h
theorem seq_unf {te : TE} {g : TG} {u : TS} {D : Ends} {σ : L2.St} {H : Hp} (h : te σ H fun w H' => g w σ H' (u D)) : tSeq (tAsg te g) u D σ H := h
theorem g_seq {i : Nat} {v : V} {s u : TS} {D : Ends} {σ : L2.St} {H : Hp} (h : s { D with nx := u D } (σ.set i (some v)) H) : gName i v σ H (tSeq s u D) := h
theorem seq_ifop {r : L2.R2} {te tr : TE} {A B u : TS} {D : Ends} {σ : L2.St} {H : Hp} (h : te σ H fun x H1 => tr σ H1 fun y H2 => r x y H2 fun v H3 => ∃ b, v = .bl b ∧ if b = true then A { D with nx := u D } σ H3 else B { D with nx := u D } σ H3) : tSeq (tIfS (tTest (tOp r te tr)) A B) u D σ H := h
theorem neD_rep {K : PySem.W.Frag} {H : Hp} {D D2 : Addr} {r : List V} {n : Nat} {Q : VK} (h : DL H D (List.replicate n r)) (h2 : DL H D2 (List.replicate n r)) (o : r.all okV = true) (sh : SeqAt.shaped (pdL (List.replicate n r)) = true) (e : PyData.eqv (pdL (List.replicate n r)) (pdL (List.replicate n r)) = true) (q : Q (.bl false) H) : rNeD K (.ref D) (.ref D2) H Q := by
  have o' : ((List.replicate n r).all fun r => r.all okV) = true := List.all_eq_true.mpr fun z hz => by rw [(List.mem_replicate.mp hz).2]; exact o
  refine neD_DL h h2 o' o' sh sh ?_
  rw [e]; exact q
theorem small1000 {n : Nat} (h : n ≤ 1000) : n < sizeLine := Nat.lt_of_le_of_lt h (by decide)
theorem te_any {te : TE} {σ : L2.St} {H : Hp} {Q : VK} (C : V → Hp → Prop) (h1 : ∀ Q7 : VK, (∀ v H, C v H → Q7 v H) → te σ H Q7) (h2 : ∀ v H, C v H → Q v H) : te σ H Q := h1 Q h2
theorem lst_one {te : TE} {σ : L2.St} {H : Hp} {Q : VK} (C : V → Hp → Prop) (h1 : ∀ Q7 : VK, (∀ v H, C v H → Q7 v H) → te σ H Q7) (h2 : ∀ v H, C v H → ∀ TL, H TL = none → Q (.ref TL) (upd H TL (.lst [v]))) : tLst (tCons te tNil) σ H Q := h1 _ fun v H c => ⟨by show 1 ≤ sizeLine; decide, fun TL n => h2 v H c TL n⟩
theorem app_one {K : PySem.W.Frag} {te : TE} {σ : L2.St} {H : Hp} {D : Ends} {j : Nat} {W : Addr} {xs : List V} (C : V → Hp → Prop) (hj : σ[j]? = some (some (.ref W))) (hl : H W = some (.lst xs)) (h1 : ∀ Q7 : VK, (∀ v H, C v H → Q7 v H) → te σ H Q7)
    (h2 : ∀ v H', C v H' → ∃ ys, H' W = some (.lst ys) ∧ ys.length ≤ 1000 ∧ D.nx σ (upd H' W (.lst (ys ++ [v])))) : tDrop (tBM K "list" rAppend (tVar j) (tCons te tNil)) D σ H :=
  ⟨_, hj, .inl ⟨rfl, _, SqL.of hl⟩, h1 _ fun v H' c => by
    obtain ⟨ys, e, l, q⟩ := h2 v H' c
    exact ⟨W, _, _, rfl, rfl, e, Nat.lt_of_le_of_lt l (by decide), q⟩⟩
theorem app_one' {K : PySem.W.Frag} {te : TE} {σ : L2.St} {H : Hp} {D : Ends} {u : TS} {j : Nat} {W : Addr} {xs : List V} (C : V → Hp → Prop) (hj : σ[j]? = some (some (.ref W))) (hl : H W = some (.lst xs)) (h1 : ∀ Q7 : VK, (∀ v H, C v H → Q7 v H) → te σ H Q7)
    (h2 : ∀ v H', C v H' → ∃ ys, H' W = some (.lst ys) ∧ ys.length ≤ 1000 ∧ u D σ (upd H' W (.lst (ys ++ [v])))) : tSeq (tDrop (tBM K "list" rAppend (tVar j) (tCons te tNil))) u D σ H :=
  app_one (D := { D with nx := u D }) C hj hl h1 h2
theorem seq_alike {te1 te2 : TE} {A u : TS} {D : Ends} {σ : L2.St} {H : Hp} (C1 : V → Hp → Prop) (C2 : V → V → Hp → Prop) (h1 : ∀ Q : VK, (∀ v H', C1 v H' → Q v H') → te1 σ H Q) (h2 : ∀ x H', C1 x H' → ∀ Q : VK, (∀ v H'', C2 x v H'' → Q v H'') → te2 σ H' Q)
    (h3 : ∀ x v H', C2 x v H' → R2 x v H' ∧ ∀ H'', Same H' H'' → u D σ H'') : tSeq (tIfS (tNot (tB (tCall (spAk R2) [] E0 (tCons te1 (tCons te2 tNil))))) A tNext) u D σ H :=
  h1 _ fun x H1 c1 => h2 x H1 c1 _ fun v H2 c2 => ⟨x, v, rfl, (h3 x v H2 c2).1, fun H3 s => ⟨_, rfl, ifF rfl ((h3 x v H2 c2).2 H3 s)⟩⟩
theorem alikeI {te1 te2 : TE} {σ : L2.St} {H : Hp} {k : Bool → Hp → Prop} (n : Int) (h1 : ∀ Q : VK, (∀ H', Same H H' → Q (.int n) H') → te1 σ H Q) (h2 : ∀ H', Same H H' → ∀ Q : VK, (∀ H'', Same H H'' → Q (.int n) H'') → te2 σ H' Q)
    (h3 : ∀ H', Same H H' → k false H') : tNot (tB (tCall (spAk R2) [] E0 (tCons te1 (tCons te2 tNil)))) σ H k :=
  h1 _ fun H1 s1 => h2 H1 s1 _ fun H2 s2 => ⟨_, _, rfl, .inl ⟨rfl, .inl ⟨_, rfl⟩⟩, fun H3 s3 => ⟨_, rfl, h3 H3 (s2.trans s3)⟩⟩
theorem tif_or {c1 c2 : TT} {A B : TS} {D : Ends} {σ : L2.St} {H : Hp} (h : c1 σ H fun b H1 => if b = true then (if true = true then A D σ H1 else B D σ H1) else c2 σ H1 fun b H2 => if b = true then A D σ H2 else B D σ H2) : tIfS (tOr c1 c2) A B D σ H := h
theorem tif_one {c : TT} {A B : TS} {D : Ends} {σ : L2.St} {H : Hp} (h : c σ H fun b H1 => if b = true then A D σ H1 else B D σ H1) : tIfS c A B D σ H := h
theorem seq_one {c : TT} {A u : TS} {D : Ends} {σ : L2.St} {H : Hp} (h : c σ H fun b H1 => if b = true then A { D with nx := u D } σ H1 else u D σ H1) : tSeq (tIfS c A tNext) u D σ H := h
theorem pow6 : (10 : Int) ^ (6 : Int).toNat = 1000000 := by decide
theorem CH.twice {cs : List Int} (c : CH cs) (l : cs.length ≤ 6) : CH ((cs ++ cs).take 6) ∧ ((cs ++ cs).take 6).length ≤ 6 := by
  have e : ((cs ++ cs).take 6).length = min 6 (cs.length + cs.length) := by rw [List.length_take, List.length_append]
  have := c.1
  refine ⟨⟨by omega, by omega, fun x hx => ?_⟩, by omega⟩
  rcases List.mem_append.mp (List.mem_of_mem_take hx) with h | h <;> exact c.2.2 x h
theorem bool_iff {b c : Bool} {p : Prop} (h : b = true ↔ p) (g : c = true ↔ p) : b = c := by
  cases b <;> cases c <;> simp_all
theorem lcm24 {m k : Nat} (h1 : 1 ≤ m) (h2 : 1 ≤ k) (a : m ≤ 6) (b : k ≤ 6) : Nat.lcm m k ≤ 60 := Nat.le_trans (Nat.lcm_le_mul (by omega) (by omega)) (Nat.le_trans (Nat.mul_le_mul a b) (by decide))
theorem at_mod2 (cs : List Int) (m : Nat) (c1 : 1 ≤ cs.length) : atI (cs.map V.int) ((m : Int) % (((cs.map V.int).length : Nat) : Int)) = some (V.int (Th.chAt cs m)) := by
  have := at_mod cs m c1
  rw [Int.zero_add] at this
  exact this
theorem tcons_any {te : TE} {tt : TA} {σ : L2.St} {H : Hp} {R : List V → Hp → Prop} (C : V → Hp → Prop) (h1 : ∀ Q7 : VK, (∀ v H, C v H → Q7 v H) → te σ H Q7) (h2 : ∀ v H', C v H' → tt σ H' fun vs H2 => R (v :: vs) H2) : tCons te tt σ H R := h1 _ h2
theorem ret_op {r : L2.R2} {te tr : TE} {D : Ends} {σ : L2.St} {H : Hp} (h : te σ H fun x H1 => tr σ H1 fun y H2 => r x y H2 D.rt) : tRet (tOp r te tr) D σ H := h
theorem or_step {c1 c2 : TT} {σ : L2.St} {H : Hp} {Q : Bool → Hp → Prop} (h : c1 σ H fun b H1 => if b = true then Q true H1 else c2 σ H1 Q) : tOr c1 c2 σ H Q := h
theorem not_alike {te1 te2 : TE} {σ : L2.St} {H : Hp} {k : Bool → Hp → Prop} (C1 : V → Hp → Prop) (C2 : V → V → Hp → Prop) (h1 : ∀ Q : VK, (∀ v H', C1 v H' → Q v H') → te1 σ H Q) (h2 : ∀ x H', C1 x H' → ∀ Q : VK, (∀ v H'', C2 x v H'' → Q v H'') → te2 σ H' Q)
    (h3 : ∀ x v H', C2 x v H' → R2 x v H' ∧ ∀ H'', Same H' H'' → k false H'') : tNot (tB (tCall (spAk R2) [] E0 (tCons te1 (tCons te2 tNil)))) σ H k :=
  h1 _ fun x H1 c1 => h2 x H1 c1 _ fun v H2 c2 => ⟨x, v, rfl, (h3 x v H2 c2).1, fun H3 s => ⟨_, rfl, (h3 x v H2 c2).2 H3 s⟩⟩
theorem r2_ints {H : Hp} {p q : Addr} {ns : List Int} (l : ns.length ≤ 1000000) (hp : H p = some (.tup (ns.map V.int))) (hq : H q = some (.tup (ns.map V.int))) : R2 (.ref p) (.ref q) H :=
  .inr ⟨p, q, _, _, rfl, rfl, ⟨rfl, by rw [List.length_map]; exact l, fun i u v hu hv => by
    rw [hu] at hv
    cases hv
    rw [List.getElem?_map] at hu
    cases e : ns[i]? with
    | none => rw [e] at hu; cases hu
    | some n => rw [e] at hu; cases hu; exact .inl ⟨rfl, .inl ⟨n, rfl⟩⟩⟩, .inr ⟨hp, hq⟩⟩
theorem sameExt {H H' : Hp} (s : Same H H') : ExtN H H' := fun b o e _ => s b o e
end W6

/-! RuQ: a try with several clauses, some with a name -/
namespace Ru
open PySem PySem.Spec PyProof.Rows L2
abbrev Ste := Addr → Value → Option Addr → TS
/-- the ends behind a suite whose name (slot i) goes -/
def unE (i : Nat) (D : Ends) : Ends := ⟨fun σ H => D.nx (σ.set i none) H, D.rt, fun σ H => D.bk (σ.set i none) H, fun σ H => D.ct (σ.set i none) H⟩
def suiteOf (o : Option Nat) (ts : Ste) (D : Ends) (a : Addr) (cls : Value) (d : Option Addr) (σ : L2.St) (H : Hp) : Prop :=
  match o with
  | none => ts a cls d D σ H
  | some i => ts a cls d (unE i D) (σ.set i (some (.ref a))) H
/-- what the clauses wish of an error, one after the other -/
def wMix (K : PySem.W.Frag) (Wo : WX) (D : Ends) : List (Value × Option Nat × Ste) → WX
  | [] => Wo
  | (c, o, ts) :: r => fun cls d σ H => ∃ b, PySem.W.exmOne K cls c = some b ∧ (b = true → ∀ a, H a = none → suiteOf o ts D a cls d σ H) ∧ (b = false → wMix K Wo D r cls d σ H)
inductive Hds (X : Cx) : List ExceptHandler → List (Value × Option Nat × Ste) → Prop
  | nil : Hds X [] []
  | plain {x : Str} {c : Value} {ts : Ste} {st : Stmt} {sts : List Stmt} {p1 p2 : Pos} {hs : List ExceptHandler} {l : List (Value × Option Nat × Ste)} (nm : Names X x c)
      (su : ∀ (a : Addr) (oe : Obj) (cls : Value) (d : Option Addr) (pn : List (Addr × Obj)), Zc cls d oe → (∃ vs, oe.data = .fields vs) → PSs (X.suite a ((a, oe) :: pn)) (st :: sts) (ts a cls d)) (r : Hds X hs l) :
      Hds X (.ExceptHandler (some (.Name x p1)) none (st :: sts) p2 :: hs) ((c, none, ts) :: l)
  | named {x n : Str} {i : Nat} {c : Value} {ts : Ste} {st : Stmt} {sts : List Stmt} {p1 p2 : Pos} {hs : List ExceptHandler} {l : List (Value × Option Nat × Ste)} (nd : X.N.Nodup) (hi : X.N[i]? = some n) (lk : X.env.kindOf n = some .local) (nm : Names X x c)
      (su : ∀ (a : Addr) (oe : Obj) (cls : Value) (d : Option Addr) (pn : List (Addr × Obj)), Zc cls d oe → (∃ vs, oe.data = .fields vs) → PSs (X.suite a ((a, oe) :: pn)) (st :: sts) (ts a cls d)) (r : Hds X hs l) :
      Hds X (.ExceptHandler (some (.Name x p1)) (some n) (st :: sts) p2 :: hs) ((c, some i, ts) :: l)
section
variable {X : Cx} {body : List Stmt} {eh : ExceptHandler} {hs : List ExceptHandler} {l : List (Value × Option Nat × Ste)} {pos : Pos} {tb : WX → TS} {Wo : WX}
theorem ps_try_mix (hst : X.stack = X.env :: X.outer) (hfr : X.env.frame = some X.env.locals) (tko : Takes X Wo)
    (hbody : ∀ (W : WX) (pn : List (Addr × Obj)) (xe : Value → Shared → Prop), Takes (X.tr pn xe) W → PassesOwn (model X.prog X.w) X.A X.env xe → PSs (X.tr pn xe) body (tb W))
    (hcl : Hds X (eh :: hs) l) : PS X (.Try body (eh :: hs) [] [] pos) (fun D σ H => tb (wMix X.K Wo D l) D σ H) := by
  refine ⟨fun pq sh σ H D J0 g => ?_⟩
  have okx := J0.ok
  have frA : X.A.frames = some (X.env :: X.outer) := by rw [okx.frames, hst]
  refine wpAny_Try_except ?_
  have bodyRun := (hbody (wMix X.K Wo D l) (X.pn ++ pq)
    (fun e z1 => wpAny (model X.prog X.w) X.A (noteFrame e X.env)
      (fun _ z2 => wpAny (model X.prog X.w) X.A (setFlight e none) (fun _ z3 => wpAny (model X.prog X.w) X.A (handleBy e X.env (eh :: hs)) (SP X pq D) X.xe z3) X.xe z2) X.xe z1)
    (fun u z xx => ?caught) PassesOwn.looking).run [] sh σ H D (J0.toTry _) g
  case caught =>
    obtain ⟨a, B, sI, pq', σ1, H1, cls, d, rfl, Jt, nb, up, sk, na, eos, ag, wish⟩ := xx
    have J1 : Inv X pq σ1 H1 sI := Jt.ofTry okx
    have sk1 : Sky B (X.env :: X.outer) a (Zc cls d) X.env.locals z.heap := by rw [← hst]; exact sk
    show wpAny (model X.prog X.w) X.A (noteFrame (.ref a) X.env) _ _ _
    refine Sky.land Zc.steady frA hfr sk1 fun hp fl upl => ?_
    have up2 := up.trans upl
    have J2 : Inv X pq σ1 H1 { z with heap := hp } := J1.landed nb fl.1 up2 eos ag
    obtain ⟨oe, vs, goe, zoe, doe⟩ := fl.there
    have noFr : a ∉ frs (X.env :: X.outer) := fun mem => by
      obtain ⟨_, o2, eo, nf⟩ := (fl.2.2.1 : hp.FunFrames B (X.env :: X.outer)).mem mem
      rw [goe] at eo
      cases eo
      exact nf _ doe
    have ne1 : a ≠ X.env.locals := fun q => noFr (List.mem_filterMap.mpr ⟨X.env, List.mem_cons_self, by rw [hfr, q]⟩)
    have ne2 : a ∉ X.fs := fun mem => by
      obtain ⟨e, me, q⟩ := List.mem_filterMap.mp mem
      exact noFr (List.mem_filterMap.mpr ⟨e, List.mem_cons_of_mem _ me, q⟩)
    have SU := J2.suite goe doe na ne1 ne2
    have LT : PySem.W.Looks (model X.prog X.w) hp (typeOf (.ref a)) cls := fun A Q E s2 k q => wpAny_typeOf_ref (k _ _ goe) (by rw [zoe.1]; exact q)
    have testN : ∀ {x : Str} {c : Value} {p1 : Pos} {Q E : Value → Shared → Prop}, Names X x c → Q c { z with heap := hp } → wpAny (model X.prog X.w) (X.A.mark (some (.ref a))) (eval (.Name x p1) X.env) Q E { z with heap := hp } := fun {x c p1 Q E} nm q => by
      obtain ⟨gx, dbg, hm | ⟨hm, hv, hnn⟩⟩ := nm
      · exact ld_glob (X := X.suite a ((a, oe) :: (X.pn ++ pq))) SU gx hm q dbg
      · exact ld_blt (X := X.suite a ((a, oe) :: (X.pn ++ pq))) SU gx hm hv q hnn dbg
    have walk : ∀ {hs' : List ExceptHandler} {l' : List (Value × Option Nat × Ste)}, Hds X hs' l' → wMix X.K Wo D l' cls d σ1 H1 → wpAny (model X.prog X.w) X.A (handleBy (.ref a) X.env hs') (SP X pq D) X.xe { z with heap := hp } := by
      intro hs' l' hk
      induction hk with
      | nil =>
        intro wi
        refine wpAny_handleBy_nil ?_
        obtain ⟨b1, b2, b3, oe5, vs5, T5, oT5, ts5, g5, z5, d5, t5, r5⟩ := id fl
        unfold PySem.passOn
        refine wpAny_bind (wpAny_field g5 d5 t5 ?_)
        rw [if_neg (show ¬ ((Value.ref T5 == Value.none) = true) from by simp)]
        have out : wpAny (model X.prog X.w) X.A (setFlight (.ref a) X.env.frame) (fun _ z4 => wpAny (model X.prog X.w) X.A (throw (.ref a) : Sem Flow) (SP X pq D) X.xe z4) X.xe { z with heap := hp } := by
          rw [hfr]
          exact HandSPX.setFlight_upZ fl fun h6 hh6 up6 => wpAny_throw (tko _ _ ⟨a, B, sI, pq, σ1, H1, cls, d, rfl, J1, nb, up2.trans up6, .inr (.inr (by rw [hst]; exact hh6)), na, eos, ag, wi⟩)
        first | exact wpAny_bind (wpAny_pure (wpAny_bind out)) | exact wpAny_bind out
      | plain nm su r ih =>
        intro wi
        obtain ⟨b, eb, yes, no⟩ := wi
        refine wpAny_handleBy_cons (codeAny_handlers_test (testN nm ((PySem.W.exm_one (M := model X.prog X.w) J2.kIn LT eb).here ?_))) (by intro q; cases q)
        cases b with
        | false => exact ih (no rfl)
        | true =>
          refine codeAny_handlers_suite ?_
          refine HandSPX.lands_againZ fl fun h7 fl7 up7 => ?_
          have J7 : Inv X pq σ1 H1 { z with heap := h7 } := J1.landed nb fl7.1 (up2.trans up7) eos ag
          obtain ⟨oe7, vs7, go7, zo7, do7⟩ := fl7.there
          refine wpAny_mono ((su a oe7 cls d (X.pn ++ pq) zo7 ⟨_, do7⟩).run [] _ _ H1 _ (J7.suite go7 do7 na ne1 ne2) (yes rfl a na)) (fun f z8 sp8 => ?_) (fun _ _ q => q.elim)
          cases f with
          | next => obtain ⟨σ8, H8, S8, q8⟩ := sp8; exact ⟨_, _, S8.unsuite okx, q8⟩
          | brk => obtain ⟨σ8, H8, S8, q8⟩ := sp8; exact ⟨_, _, S8.unsuite okx, q8⟩
          | cont => obtain ⟨σ8, H8, S8, q8⟩ := sp8; exact ⟨_, _, S8.unsuite okx, q8⟩
          | ret u => obtain ⟨v8, σ8, H8, S8, r8, q8⟩ := sp8; exact ⟨_, _, _, S8.unsuite okx, r8, q8⟩
      | @named x n i c ts st sts p1 p2 hs3 l3 nd hi lk nm su r ih =>
        intro wi
        obtain ⟨b, eb, yes, no⟩ := wi
        refine wpAny_handleBy_cons (codeAny_handlers_test (testN nm ((PySem.W.exm_one (M := model X.prog X.w) J2.kIn LT eb).here ?_))) (by intro q; cases q)
        cases b with
        | false => exact ih (no rfl)
        | true =>
          refine codeAny_handlers_suite_as ?_
          refine HandSPX.lands_againZ fl fun h7 fl7 up7 => ?_
          have J7 : Inv X pq σ1 H1 { z with heap := h7 } := J1.landed nb fl7.1 (up2.trans up7) eos ag
          obtain ⟨oe7, vs7, go7, zo7, do7⟩ := fl7.there
          refine store_ok (X := X.suite a ((a, oe7) :: (X.pn ++ pq))) (v := .ref a) (J7.suite go7 do7 na ne1 ne2) nd hi (.inl lk) rfl (fun z5 S5 => ?_) (.inr lk)
          refine wpAny_mono ((su a oe7 cls d (X.pn ++ pq) zo7 ⟨_, do7⟩).run [] z5 _ H1 _ S5 (yes rfl a na)) (fun f z8 sp8 => ?_) (fun _ _ q => q.elim)
          have gone : ∀ {σ8 : L2.St} {H8 : Hp} {Q : Shared → Prop}, Inv (X.suite a ((a, oe7) :: (X.pn ++ pq))) [] σ8 H8 z8 → (∀ z9, Inv X pq (σ8.set i none) H8 z9 → Q z9) →
              wpAny (model X.prog X.w) X.A (do bindName X.env n .none; unbindBehindTheSuite X.env n p2) (fun _ z9 => Q z9) X.xe z8 := fun {σ8 H8 Q} S8 hq => gone_ok (S8.unsuite okx) nd hi lk hq
          cases f with
          | next => obtain ⟨σ8, H8, S8, q8⟩ := sp8; exact gone S8 fun z9 J9 => ⟨_, _, J9, q8⟩
          | brk => obtain ⟨σ8, H8, S8, q8⟩ := sp8; exact gone S8 fun z9 J9 => ⟨_, _, J9, q8⟩
          | cont => obtain ⟨σ8, H8, S8, q8⟩ := sp8; exact gone S8 fun z9 J9 => ⟨_, _, J9, q8⟩
          | ret u => obtain ⟨v8, σ8, H8, S8, r8, q8⟩ := sp8; exact gone S8 fun z9 J9 => ⟨_, _, _, J9, r8, q8⟩
    exact walk hcl wish
  refine wpAny_mono bodyRun (fun f z1 sp1 => ?_) (fun e z1 he => he)
  cases f with
  | next => obtain ⟨σ2, H2, J2, q2⟩ := sp1; exact wpAny_execs_nil ⟨σ2, H2, J2.ofTry okx, q2⟩
  | brk => obtain ⟨σ2, H2, J2, q2⟩ := sp1; exact ⟨σ2, H2, J2.ofTry okx, q2⟩
  | cont => obtain ⟨σ2, H2, J2, q2⟩ := sp1; exact ⟨σ2, H2, J2.ofTry okx, q2⟩
  | ret u => obtain ⟨v2, σ2, H2, J2, r2, q2⟩ := sp1; exact ⟨v2, σ2, H2, J2.ofTry okx, r2, q2⟩
end
end Ru

/-! RuR: errors' classes as they stand, by name; what a def that catches tells of them -/
namespace Ru
open PySem PySem.Spec PyProof.Rows L2 LamX
/-- an error without an __init__ of its own -/
structure Ep (K : PySem.W.Frag) (mg : Str → Option Value) (nm : Str) (C : Addr) : Prop where
  g : mg nm = some (.ref C)
  ex : ExcC K C
  xc : PySem.W.excIn K C [.type "ValueError", .type "Exception", .type "BaseException", .type "object"] "ValueError.__new__" = true
  kp : PySem.W.keepIn K (.ref C) = true
  bx : PySem.W.subIn K (.ref C) (.type "BaseException") = some true
  ty : PySem.W.typeIn K (.ref C) = some (.type "type")
/-- an error with an index -/
structure Ei (P : Program) (K : PySem.W.Frag) (mg : Str → Option Value) (nm : Str) (C f : Addr) : Prop where
  ix : PySem.IxX.IxTxt P K mg nm C f
  ex : ExcC K C
/-- an error's name, its class, whether it has an index -/
structure En where
  nm : Str
  c : Addr
  ix : Bool
/-- what an error is told as -/
def EnOf (L : List En) (cls : Value) (d : Option Addr) (H : Hp) (xs : List V) : Prop :=
  ∃ e ∈ L, cls = .ref e.c ∧ ((e.ix = true ∧ ∃ (dd : Addr) (i : Int), d = some dd ∧ H dd = some (.xd [(("index" : Str), .int i)]) ∧ xs = [.str e.nm, .int i]) ∨ (e.ix = false ∧ d = none ∧ xs = [.str e.nm]))
/-- told: the error's tuple, or what the work gave -/
def TTo (L : List En) : (XK → Hp → VK → Prop) → Hp → VK → Prop := fun tl H Q =>
  tl (fun cls d H' => ∃ xs, EnOf L cls d H' xs ∧ ∀ p H'', Same H' H'' → H'' p = some (.tup xs) → Q (.ref p) H'') H Q
/-- a work that ends in an error without an index -/
theorem workP {X : Cx} {k : Nat} {σ : L2.St} {H0 : Hp} {f : Addr} {params : Arguments} {body : Expr} {scope : Scope} {ds : List V} {t : XK → TE} {L : List En} {nm : Str} {C : Addr} (hm : (⟨nm, C, false⟩ : En) ∈ L) (la : LamAt X H0 f params body scope ds) (lb : LamB X k params body scope ds t)
    (go : ∀ (H' : Hp) (E : XK) (Q : VK), Same H0 H' → (∀ H'', Same H' H'' → E (.ref C) none H'') → t E σ H' Q) : Work X k (TTo L) σ H0 f [.str nm] :=
  ⟨params, body, scope, ds, t, la, lb, fun H' Q s h => go H' _ _ s fun H'' s'' => ⟨_, ⟨_, hm, rfl, .inr ⟨rfl, rfl, rfl⟩⟩, fun p H3 s3 hp => h p H3 (s''.trans s3) hp⟩⟩
/-- a work that ends in an error with an index -/
theorem workI {X : Cx} {k : Nat} {σ : L2.St} {H0 : Hp} {f : Addr} {params : Arguments} {body : Expr} {scope : Scope} {ds : List V} {t : XK → TE} {L : List En} {nm : Str} {C : Addr} {i : Int} (hm : (⟨nm, C, true⟩ : En) ∈ L) (la : LamAt X H0 f params body scope ds) (lb : LamB X k params body scope ds t)
    (go : ∀ (H' : Hp) (E : XK) (Q : VK), Same H0 H' → (∀ d H'', Same H' H'' → H'' d = some (.xd [(("index" : Str), .int i)]) → E (.ref C) (some d) H'') → t E σ H' Q) : Work X k (TTo L) σ H0 f [.str nm, .int i] :=
  ⟨params, body, scope, ds, t, la, lb, fun H' Q s h => go H' _ _ s fun d H'' s'' hd => ⟨_, ⟨_, hm, rfl, .inl ⟨rfl, d, i, rfl, hd, rfl⟩⟩, fun p H3 s3 hp => h p H3 (s''.trans s3) hp⟩⟩
end Ru

namespace W6
open PySem PySem.Spec PyProof.Rows L2 Ru StX LamX
/-- where the errors' classes stand -/
structure Er2 where
  n : Addr
  x : Addr
  f : Addr
/-- what the written part says of the errors -/
structure E2T (P : Program) (K : PySem.W.Frag) (mg : Str → Option Value) (er : Er2) : Prop where
  n : Ep K mg "InvalidNumber" er.n
  x : Ei P K mg "InvalidPrices" er.x er.f
  nn : PySem.W.exmOne K (.ref er.n) (.ref er.n) = some true
  xn : PySem.W.exmOne K (.ref er.x) (.ref er.n) = some false
  xx : PySem.W.exmOne K (.ref er.x) (.ref er.x) = some true
def eL (er : Er2) : List En := [⟨"InvalidNumber", er.n, false⟩, ⟨"InvalidPrices", er.x, true⟩]
def spNumX (er : Er2) : Sp := fun vs H Q E => ∃ n l u : Int, vs = [.int n, .int l, .int u] ∧ ((l ≤ n ∧ n ≤ u) → Q .non H) ∧ (¬ (l ≤ n ∧ n ≤ u) → E (.ref er.n) none H)
section
variable {X : Cx} {a : Ad} {er : Er2}
theorem gives_outcome {g : Addr} {cdg : Value} (T : Txt X.K X.mg a) (ER : E2T X.prog X.K X.mg er) : Gives2 X ["_law_work", "e"] "_law_outcome" (defScope s__law_outcome) g cdg (defBody s__law_outcome) "_law_work" (TTo (eL er)) := by
  intro f s H Q tl hr act h
  have byX : ∀ (ea : Addr) (oe : Obj) (cls : Value) (d : Option Addr) (pn : List (Addr × Obj)) (e : Expr) (te : TE) (pos : Pos), Zc cls d oe → (∃ vs, oe.data = .fields vs) →
      PE ((cxOf C8.CX0 X.prog X.w X.K X.mg X.base ["_law_work", "e"] "_law_outcome" (defScope s__law_outcome) g cdg X.A X.stack s H C8.E0).nox.suite ea ((ea, oe) :: pn)) e te →
      attributeBase e "index" (cxOf C8.CX0 X.prog X.w X.K X.mg X.base ["_law_work", "e"] "_law_outcome" (defScope s__law_outcome) g cdg X.A X.stack s H C8.E0).env (eval e (cxOf C8.CX0 X.prog X.w X.K X.mg X.base ["_law_work", "e"] "_law_outcome" (defScope s__law_outcome) g cdg X.A X.stack s H C8.E0).env) = eval e (cxOf C8.CX0 X.prog X.w X.K X.mg X.base ["_law_work", "e"] "_law_outcome" (defScope s__law_outcome) g cdg X.A X.stack s H C8.E0).env →
      PE ((cxOf C8.CX0 X.prog X.w X.K X.mg X.base ["_law_work", "e"] "_law_outcome" (defScope s__law_outcome) g cdg X.A X.stack s H C8.E0).nox.suite ea ((ea, oe) :: pn)) (.Attribute e "index" pos) (tByIx er.x ea cls d te) := fun _ _ _ _ _ _ _ _ hz hf he hb => pe_byIx (X := (cxOf C8.CX0 X.prog X.w X.K X.mg X.base ["_law_work", "e"] "_law_outcome" (defScope s__law_outcome) g cdg X.A X.stack s H C8.E0).nox) ER.x.ix hz hf he hb
  refine ⟨_, PSs.nox ((pss_one (ps_try_mix rfl rfl L2.takes0 (by exact fun W pn xe tk _ =>
      (pss_one (ps_ret (act W pn xe _ _ tk)))) (Hds.plain ⟨rfl, by decide, .inl ER.n.g⟩ (by exact fun ea oe cls d pn hz hf =>
      (pss_one (ps_ret (pe_tup (pa_cons pe_str pa_nil))))) (Hds.named (i := 1) sc__law_outcome.nd rfl rfl ⟨rfl, by decide, .inl ER.x.ix.gC⟩ (by exact fun ea oe cls d pn hz hf =>
      (pss_one (ps_ret (pe_tup (pa_cons pe_str (pa_cons (byX ea oe cls d pn _ _ _ hz hf (pv 1) rfl) pa_nil)))))) Hds.nil))))), ?_⟩
  refine ⟨rfl, Same.refl _, _, ?_, h⟩
  rintro cls d H' ⟨xs, ⟨e, he, rfl, hj⟩, go⟩
  rcases List.mem_cons.mp he with rfl | he
  · refine ⟨true, ER.nn, fun _ ea hea => ?_, fun z => nomatch z⟩
    rcases hj with ⟨z, _⟩ | ⟨_, rfl, rfl⟩
    · cases z
    exact ⟨by show 1 ≤ sizeLine; decide, fun p hp => go p _ (same_upd hp) upd_same⟩
  · obtain rfl := List.mem_singleton.mp he
    refine ⟨false, ER.xn, fun z => (nomatch z), fun _ => ⟨true, ER.xx, fun _ ea hea => ?_, fun z => nomatch z⟩⟩
    rcases hj with ⟨_, dd, i, rfl, hx, rfl⟩ | ⟨z, _⟩
    · exact ⟨_, rfl, rfl, rfl, dd, _, rfl, hx, by show 2 ≤ sizeLine; decide, fun p hp => go p _ (same_upd hp) upd_same⟩
    · cases z
theorem give_outcome (T : Txt X.K X.mg a) (ER : E2T X.prog X.K X.mg er) : GiveF X ["_law_work", "e"] "_law_outcome" (defScope s__law_outcome) a.f__law_outcome (defBody s__law_outcome) "_law_work" (TTo (eL er)) := by
  have bb := b__law_outcome T
  obtain ⟨oc, od, kV, doc, pm, an, cdv, ct, osl, e, lk, hcd⟩ := T.F__law_outcome.ex
  rw [e] at lk bb
  exact ⟨T.mg__law_outcome, T.F__law_outcome.kp, ⟨_, _, _, _, _, _, _, _, _, _, _, lk, hcd, bb, gives_outcome T ER⟩, sc__law_outcome, rfl, .inl rfl, by decide, by decide⟩
end
section
variable {P : Program} {w : World} {K : PySem.W.Frag} {mg : Str → Option Value} {base : Heap} {a : Ad} {er : Er2}
/-- a def whose code object stands at c -/
theorem okC {x qual : Str} {st : Stmt} {f c : Addr} {fd : FuncData} {N ps : List Str} {k : Nat} {sp : Sp} (F : Fun K x qual st f fd) (hc : fd.code = .ref c) (S : FnScope N ps (defScope st)) (len : ∀ vs H Q E, sp vs H Q E → vs.length = ps.length)
    (hbody : ∀ (A : Around) (outer : List Env) (s : Shared) (H : Hp) (vs : List V) (Q : VK) (E : XK), Room k (A.deeper (envOfC qual (defScope st) s.heap.objs.size f (.ref c))) → sp vs H Q E →
      ∃ t, PSs (cxOf CX0 P w K mg base N qual (defScope st) f (.ref c) A outer s H E).nox (defBody st) t ∧ t { nx := fun _ H' => Q .non H', rt := Q } (start N vs) H) : FnOk P w K mg base CX0 (k + 1) f fd ps sp := by
  obtain ⟨oc, od, kV, doc, pm, an, cdv, ct, osl, rfl, lk, hcd⟩ := F.ex
  have e : cdv = .ref c := hc
  subst e
  refine fn_of lk hcd S len fun A outer s H vs Q E hr hsp => ?_
  obtain ⟨t, h, q⟩ := hbody A outer s H vs Q E hr hsp
  exact ⟨t, h.nox, q⟩
theorem tabs_kp {Tb : List (Addr × Str)} {H H' : Hp} {x y : Addr} (ls : LS K H x y) (k : Kp x H H') (h : Tabs Tb H) : Tabs Tb H' := by
  have go : ∀ {b : Addr} {o : HO}, H b = some o → (∀ xs, o ≠ .lst xs) → H' b = some o := fun e n => k.get ls e n
  intro p hp
  obtain ⟨ps, a1, a2, a3⟩ := h p hp
  refine ⟨ps, go a1 (fun xs z => nomatch z), a2, fun pos cv hc => ?_⟩
  obtain ⟨c, e1, e2⟩ := a3 pos cv hc
  exact ⟨c, e1, go e2 (fun xs z => nomatch z)⟩
theorem LS.ext {H H' : Hp} {x y : Addr} (h : LS K H x y) (s : ExtN H H') : LS K H' x y := by
  obtain ⟨ns, i, m, c, h1, h2, r⟩ := h
  refine ⟨ns, i, m, c, s _ _ h1 (fun _ z => nomatch z), ?_, r⟩
  rcases h2 with (h | ⟨ob, h⟩) | h
  · exact .inl (.inl (s _ _ h (fun _ z => nomatch z)))
  · exact .inl (.inr ⟨ob, s _ _ h (fun _ z => nomatch z)⟩)
  · exact .inr h
theorem okx_check_number (T : Txt K mg a) (ER : E2T P K mg er) : FnOk P w K mg base (L2.CX P w) 1 a.f_check_number a.d_check_number ["number", "least", "greatest"] (spNumX er) := by
  refine T.F_check_number.okX sc_check_number (fun vs H Q E h => ?_) (fun cdv A outer s H vs Q E hr h => ?_)
  · obtain ⟨n, l, u, rfl, _⟩ := h
    rfl
  · obtain ⟨n, l, u, rfl, k, kx⟩ := h
    refine ⟨_, (pss_one (ps_if (pt_not (pt_chain op_le op_le (pv 1) (pv 0) (pv 2))) (pss_one (ps_raise rfl (takes_of rfl rfl rfl rfl) (pmk_own PySem.F.excBase_ValueError ER.n.xc ER.n.g ER.n.kp (raises_own ER.n.bx ER.n.ty) rfl))) pss_nil)), ?_⟩
    refine ⟨_, rfl, _, rfl, _, _, rfl, rfl, _, rfl, ?_⟩
    by_cases g1 : l ≤ n
    · refine ifT (dT g1) ⟨_, rfl, _, _, rfl, rfl, _, rfl, ?_⟩
      by_cases g2 : n ≤ u
      · refine ifF (nF g2) ?_
        exact k ⟨g1, g2⟩
      · refine ifT (nT g2) ?_
        exact kx fun z => g2 z.2
    · refine ifF (dF g1) ⟨_, rfl, ifT rfl ?_⟩
      exact kx fun z => g1 z.1
end
end W6

set_option maxHeartbeats 4000000
/-! a == t, t a tuple -/
namespace Ru
open PySem PySem.Spec PyProof.Rows L2 StX
section
variable {X : Cx} {CX : CXT} {k : Nat} {f C : Addr} {fd : FuncData} {ps : List Str} {sp : Sp} {E : XK}
/-- a == t by the class's own def -/
def rOwnQT (C : Addr) (sp : Sp) (E : XK) : R2 := fun x y H Q => ∃ a dx fs t xs, x = .ref a ∧ y = .ref t ∧ H a = some (.ins C dx fs) ∧ H t = some (.tup xs) ∧ sp [.ref a, .ref t] H Q E
theorem op_ownEqT (mc : EqC X.K C f) (n3 : PySem.W.notFirst X.K C (.type "tuple") = true) (F : FnOk X.prog X.w X.K X.mg X.base CX k f fd ps sp) (hb : Binds X.K fd ps []) (hr : Room k X.A) (hx : Passes CX X E) : OpR X (compareOp .Eq) (rOwnQT C sp E) := by
  intro pq sh σ H x y v u Q J rx ry hh
  obtain ⟨a, dx, fs, t, xs, rfl, rfl, ea, et, q⟩ := hh
  obtain rfl : v = Value.ref a := rx
  obtain rfl : u = Value.ref t := ry
  obtain ⟨mA, JA, _⟩ := ins_get J.hok ea
  obtain ⟨od, JA, _⟩ := JA.look
  obtain ⟨m, hF⟩ := J.fr
  obtain ⟨its, rv, pl, _⟩ := J.tuple (SqT.of (K := X.K) et)
  have lt : PySem.W.Looks (model X.prog X.w) sh.heap (typeOf (.ref t)) (.type "tuple") := by
    obtain ⟨o, ho, hc, _⟩ := pl
    exact fun A Q E s k q => wpAny_typeOf_ref (k _ _ ho) (by rw [hc]; exact q)
  show wpAny _ _ (richCompare .Eq (.ref a) (.ref t)) _ _ _
  refine PySem.W.cmp_K (op := .Eq) (tb := .type "tuple") hr.units0 hF J.ok.mod.kin JA lt n3 mc.hs mc.hf ?_
  refine thn (run_fn (us := [.ref a, .ref t]) (vs := [.ref a, .ref t]) F hr hb .nil hx J (.cons rfl (.cons rfl .nil)) q) fun v s2 z => ?_
  obtain ⟨z2, H2, J2, rz, qz⟩ := z
  exact SlX.cmpback rz ⟨z2, H2, J2, rz, qz⟩
end
end Ru

namespace W6
open PySem PySem.Spec PyProof.Rows L2 Ru StX LamX
/-- prices that can be -/
def CP (cs : List Int) : Prop := 1 ≤ cs.length ∧ cs.length ≤ 24 ∧ ∀ c ∈ cs, 0 ≤ c ∧ c ≤ 1000000
def PAt (a : Ad) (H : Hp) (z : Addr) (cs : List Int) : Prop := ∃ dx t, H z = some (.ins a.c_Prices dx [("_cents", .ref t)]) ∧ H t = some (.tup (cs.map V.int))
theorem PAt.same {a : Ad} {H H' : Hp} {z : Addr} {cs : List Int} (h : PAt a H z cs) (s : Same H H') : PAt a H' z cs := let ⟨dx, t, h1, h2⟩ := h; ⟨dx, t, s _ _ h1, s _ _ h2⟩
/-- the first change that can't be -/
def GoodP (i : Nat) (c : Int) : Prop := (i : Int) < 24 ∧ 0 ≤ c ∧ c ≤ 1000000
def BadP (cs : List Int) (i : Nat) : Prop := (cs = [] ∧ i = 0) ∨ ∃ c, cs[i]? = some c ∧ ¬ GoodP i c ∧ ∀ (j : Nat) (d : Int), j < i → cs[j]? = some d → GoodP j d
/-- the error InvalidPrices with its index -/
def BadPr (er : Er2) (cs : List Int) (H : Hp) (E : XK) : Prop := ∀ (i : Nat) (d : Addr) (H' : Hp), BadP cs i → Same H H' → H' d = some (.xd [(("index" : Str), .int i)]) → E (.ref (er.x)) (some d) H'
section
variable (a : Ad) (er : Er2)
def spPiX : Sp := fun vs H Q E => ∃ (x dx p : Addr) (cs : List Int), vs = [.ref x, .ref p] ∧ H x = some (.ins a.c_Prices dx []) ∧ H p = some (.tup (cs.map V.int)) ∧ cs.length ≤ 1000 ∧ (CP cs → ∀ H', Fr1 x H H' → PAt a H' x cs → Q .non H') ∧ BadPr er cs H E
def spPsX : Sp := fun vs H Q E => ∃ ws rest, vs = ws ++ rest ∧ ws.length = ["self"].length ∧ rest.length ≤ sizeLine ∧ ∀ p, H p = Option.none → spPiX a er (ws ++ [V.ref p]) (upd H p (.tup rest)) Q E
end
section
variable {P : Program} {w : World} {K : PySem.W.Frag} {mg : Str → Option Value} {base : Heap} {a : Ad} {er : Er2}
theorem okx_Prices_init (T : Txt K mg a) (ER : E2T P K mg er) : FnR P w K mg base (L2.CX P w) 3 a.f_Prices_init (spPsX a er) := by
  have G_first_invalid : FnOk P w K mg base CX0 1 a.f_first_invalid a.d_first_invalid ["values", "least", "greatest", "most"] spFi := ok_first_invalid T
  obtain ⟨oc, od, kV, doc, pm, an, cdv, ct, osl, e, lk, hcd⟩ := T.F_Prices_init.ex
  rw [e] at lk
  refine fn_star (ps := ["self"]) (pv := "cents") (sp := spPiX a er) lk hcd sc_Prices_init cxUp (bind_star1 (B := fun us => bindArgs (PySem.W.fnOf "__init__" "Prices.__init__" (defArgs s_Prices_init) (defBody s_Prices_init) (defScope s_Prices_init) .none kV doc pm an cdv ct) ⟨us, []⟩) (fun _ => rfl) (fun _ _ _ => rfl)) (fun A outer s H vs Q E hr h => ?_)
  obtain ⟨x, dx, p, cs, rfl, hx, hp, hz, k, kb⟩ := h
  obtain ⟨tt, cvT⟩ := T.cv_Prices_MAX_TICKS
  obtain ⟨tc, cvC⟩ := T.cv_Prices_MAX_PRICE
  have npx : p ≠ x := ne_of hp hx (fun z => nomatch z)
  have idx : ∀ {i : Nat} {c : Int}, cs[i]? = some c → i ≤ 1000 := fun e => by
    have := (List.getElem?_eq_some_iff.mp e).1
    omega
  refine ⟨_, (pss_cons (ps_set (i := 2) sc_Prices_init.nd rfl (Or.inl rfl) (pe_call G_first_invalid (hr.mono (by decide)) (by rfl) T.mg_first_invalid T.F_first_invalid.kp (b_first_invalid T) .nil pass0 (pa_cons (pv 1) (pa_cons pe_int (pa_cons (pe_con (pv 0) rfl) (pa_cons (pe_con (pv 0) rfl) pa_nil))))))
      (pss_cons (ps_if (pt_cmpR op_notN (pv 2) pe_non (nomark _)) (pss_one (ps_raiseIx rfl ER.x.ix hr (takes_of rfl rfl rfl rfl) (pa_cons (pv 2) pa_nil) rfl)) pss_nil)
      (pss_one (ps_fld (pv 0) (pv 1) rfl)))), ?_⟩
  refine ⟨_, rfl, _, rfl, x, _, dx, _, _, _, rfl, hx, T.cl_Prices, cvC, rfl, _, rfl, x, _, dx, _, _, _, rfl, hx, T.cl_Prices, cvT, rfl, p, cs, _, _, _, rfl, hp, fun H' sm ne ok => ?_, fun H' i c sm hc bad first => ?_, fun H' sm e0 => ?_⟩
  · refine ⟨_, rfl, rfl, _, rfl, ?_⟩
    refine ifF rfl ?_
    refine ⟨_, rfl, _, rfl, x, _, dx, _, rfl, sm _ _ hx, T.cl_Prices, T.na_Prices__cents, by show 0 < 1000; decide, ?_⟩
    refine k ⟨?_, ?_, fun c hc => ?_⟩ _ ((Fr1.of sm).trans Fr1.upd) ⟨dx, p, by rw [upd_same]; rfl, by rw [upd_ne npx]; exact sm _ _ hp⟩
    · cases cs with
      | nil => exact absurd rfl ne
      | cons c r => exact Nat.succ_le_succ (Nat.zero_le _)
    · by_cases q : cs.length ≤ 24
      · exact q
      · have l : 24 < cs.length := by omega
        have := (ok 24 cs[24] (List.getElem?_eq_getElem l)).1
        omega
    · obtain ⟨i, hi⟩ := List.mem_iff_getElem?.mp hc
      exact (ok i c hi).2
  · refine ⟨_, rfl, rfl, _, rfl, ?_⟩
    refine ifT rfl ?_
    refine ⟨_, rfl, (i : Int), rfl, log_small (idx hc), fun d hd => ?_⟩
    exact kb i d _ (.inr ⟨c, hc, bad, first⟩) (sm.trans (same_upd hd)) upd_same
  · refine ⟨_, rfl, rfl, _, rfl, ?_⟩
    refine ifT rfl ?_
    refine ⟨_, rfl, 0, rfl, by decide, fun d hd => ?_⟩
    exact kb 0 d _ (.inl ⟨e0, rfl⟩) (sm.trans (same_upd hd)) upd_same
/-- what the making of a weather asks -/
theorem prices_madeX {H : Hp} {Q : VK} {E : XK} {cs : List Int} (hz : cs.length ≤ 1000) (k : CP cs → ∀ z H', Same H H' → PAt a H' z cs → Q (.ref z) H') (kb : BadPr er cs H E) : ∀ x dx, H x = none → H dx = none → dx ≠ x → spPsX a er (V.ref x :: cs.map V.int) (upd (upd H dx (.own x)) x (.ins a.c_Prices dx [])) (fun v H2 => v = .non ∧ Q (.ref x) H2) E := fun x dx nx nd ne =>
  ⟨[.ref x], cs.map V.int, rfl, rfl, by rw [List.length_map]; exact Nat.le_of_lt (small1000 hz), fun p hp => by
    have npx : x ≠ p := ne_of_none upd_same hp
    have s1 := same_upd (o := .tup (cs.map V.int)) hp
    exact ⟨x, dx, p, cs, rfl, s1 _ _ upd_same, upd_same, hz, fun c H' fr wt => ⟨rfl, k c x H' (Fr1.made nx nd ((Fr1.of s1).trans fr)) wt⟩, fun i d H' hb sm hd => kb i d H' hb ((same_made nx nd).trans (s1.trans sm)) hd⟩⟩
end
section
variable (a : Ad) (er : Er2)
def spPlen : Sp := fun vs H Q _ => ∃ (z : Addr) (cs : List Int), vs = [.ref z] ∧ PAt a H z cs ∧ Q (.int (cs.length : Nat)) H
def spPget : Sp := fun vs H Q _ => ∃ (z : Addr) (cs : List Int) (n : Nat), vs = [.ref z, .int n] ∧ PAt a H z cs ∧ CP cs ∧ n ≤ 1000000000000000000 ∧ Q (.int (Th.chAt cs n)) H
def spPcall : Sp := fun vs H Q _ => ∃ (z : Addr) (cs : List Int) (n : Nat), vs = [.ref z, .int n] ∧ PAt a H z cs ∧ CP cs ∧ n ≤ 1000000000000000000 ∧ ∀ H', Same H H' → Q (.int (Th.sumTo cs 0 n)) H'
def spPeq : Sp := fun vs H Q _ => ∃ (y z : Addr) (cs ds : List Int), vs = [.ref y, .ref z] ∧ PAt a H y cs ∧ PAt a H z ds ∧ CP cs ∧ CP ds ∧ ∀ b H', Same H H' → (b = true ↔ SameW cs ds) → Q (.bl b) H'
def spPeqT : Sp := fun vs H Q _ => ∃ (y t : Addr) (cs : List Int) (xs : List V), vs = [.ref y, .ref t] ∧ PAt a H y cs ∧ H t = some (.tup xs) ∧ Q (.bl false) H
def spPnX : Sp := fun vs H Q E => ∃ (y : Addr) (cs : List Int) (n : Int), vs = [.ref y, .int n] ∧ PAt a H y cs ∧ ¬ (0 ≤ n ∧ n ≤ 1000000000000000000) ∧ E (.ref er.n) none H
def spPmX : Sp := fun vs H Q E => ∃ (z : Addr) (cs : List Int) (n : Int), vs = [.ref z, .int n] ∧ PAt a H z cs ∧ CP cs ∧ (CP (cs.map fun c => c * n) → ∀ v H', Same H H' → PAt a H' v (cs.map fun c => c * n) → Q (.ref v) H') ∧ BadPr er (cs.map fun c => c * n) H E
end
/-- what is said of the class of prices by its operators -/
structure POp (K : PySem.W.Frag) (a : Ad) : Prop where
  hm : mroHd K a.c_Prices = true
  ne : NeC K a.c_Prices a.f_Prices_eq
  kit : PySem.W.kitOne K (.ref a.c_Prices) (.ref a.c_Prices) = some true
  cc : PySem.W.findIn K (.ref a.c_Prices) "__class__" = some (some (.builtin "object.__class__"))
  hn : PySem.W.specialIn K (.builtin "object.__class__") "__get__" = some (some (.builtin "getset_descriptor.__get__"))
  tk : PySem.W.takesIn K (.builtin "object.__class__") = some true
  mo : PySem.W.mroIn K a.c_Prices (.type "object") = some true
  mul : MulC K a.c_Prices a.f_Prices_mul
  eq : EqC K a.c_Prices a.f_Prices_eq
  n3 : PySem.W.notFirst K a.c_Prices (.type "tuple") = true
  fc : PySem.W.fnIn K a.f_Prices_call = true
  fg : PySem.W.fnIn K a.f_Prices_getitem = true
  kt : PySem.W.kitOne K (.type "tuple") (.ref a.c_Prices) = some false
  cr : ClX.CRead K a.c_Prices (.type "type")
  v24 : ∃ t, ClX.CVal K a.c_Prices (.type "type") "MAX_TICKS" (.int 24) (.int 24 t)
  vM : ∃ t, ClX.CVal K a.c_Prices (.type "type") "MAX_PRICE" (.int 1000000) (.int 1000000 t)
theorem intAt {cs : List Int} {j : Nat} {v : V} (h : (cs.map V.int)[j]? = some v) : ∃ c, cs[j]? = some c ∧ v = .int c := by
  rw [List.getElem?_map] at h
  cases e : cs[j]? with
  | none => rw [e] at h; cases h
  | some c => rw [e] at h; exact ⟨c, rfl, (Option.some.inj h).symm⟩
theorem CP.good {cs : List Int} (c : CP cs) {i : Nat} (b : BadP cs i) : False := by
  rcases b with ⟨e, _⟩ | ⟨d, h, n, _⟩
  · have := c.1; rw [e] at this; exact absurd this (by decide)
  · have l := (List.getElem?_eq_some_iff.mp h).1
    have := c.2.1
    exact n ⟨by omega, c.2.2 d (List.mem_of_getElem? h)⟩
section
variable {P : Program} {w : World} {K : PySem.W.Frag} {mg : Str → Option Value} {base : Heap} {a : Ad} {er : Er2}
theorem ok_Prices_cents (T : Txt K mg a) : FnOk P w K mg base CX0 1 a.f_Prices_cents a.d_Prices_cents ["self"] (getSp a.c_Prices "_cents") := by
  refine T.F_Prices_cents.ok sc_Prices_cents (fun vs H Q E h => ?_) (fun cdv A outer s H vs Q E hr h => ?_)
  · obtain ⟨z, dx, fs, v, rfl, _⟩ := h
    rfl
  · obtain ⟨z, dx, fs, v, rfl, hz, l, q⟩ := h
    exact ⟨_, (pss_one (ps_ret (pe_fld (pv 0) rfl))), ⟨_, rfl, z, _, dx, fs, v, rfl, hz, T.cl_Prices, T.na_Prices__cents, l, q⟩⟩
theorem ok_Prices_len (T : Txt K mg a) : FnOk P w K mg base CX0 1 a.f_Prices_len a.d_Prices_len ["self"] (spPlen a) := by
  refine T.F_Prices_len.ok sc_Prices_len (fun vs H Q E h => ?_) (fun cdv A outer s H vs Q E hr h => ?_)
  · obtain ⟨z, cs, rfl, _⟩ := h
    rfl
  · obtain ⟨z, cs, rfl, ⟨dx, t, hz, ht⟩, k⟩ := h
    refine ⟨_, (pss_one (ps_ret (pe_callB call_len_seq (by rfl) T.z_len PySem.boot_len (pa_cons (pe_fld (pv 0) rfl) pa_nil)))), ?_⟩
    refine ⟨_, rfl, z, _, dx, _, _, rfl, hz, T.cl_Prices, T.na_Prices__cents, rfl, t, _, rfl, .inr (SqT.of ht), ?_⟩
    rw [List.length_map]
    exact k
theorem ok_Prices_call (T : Txt K mg a) : FnOk P w K mg base CX0 2 a.f_Prices_call a.d_Prices_call ["self", "count"] (spPcall a) := by
  have G_check_number : FnOk P w K mg base CX0 1 a.f_check_number a.d_check_number ["number", "least", "greatest"] spNum := ok_check_number T
  have G_sum_of_first : FnOk P w K mg base CX0 1 a.f_sum_of_first a.d_sum_of_first ["values", "count"] spSof := ok_sum_of_first T
  refine T.F_Prices_call.ok sc_Prices_call (fun vs H Q E h => ?_) (fun cdv A outer s H vs Q E hr h => ?_)
  · obtain ⟨z, cs, n, rfl, _⟩ := h
    rfl
  · obtain ⟨z, cs, n, rfl, ⟨dz, t, hz, ht⟩, c, n18, k⟩ := h
    refine ⟨_, (pss_cons (ps_expr (pe_call G_check_number (hr.mono (by decide)) (by rfl) T.mg_check_number T.F_check_number.kp (b_check_number T) .nil pass0 (pa_cons (pv 1) (pa_cons pe_int (pa_cons (pe_glob (v := .int 1000000000000000000) rfl T.mg_MOST_TICKS.choose_spec ⟨_, rfl⟩) pa_nil)))))
      (pss_one (ps_ret (pe_call G_sum_of_first (hr.mono (by decide)) (by rfl) T.mg_sum_of_first T.F_sum_of_first.kp (b_sum_of_first T) .nil pass0 (pa_cons (pe_fld (pv 0) rfl) (pa_cons (pv 1) pa_nil)))))), ?_⟩
    refine ⟨_, rfl, _, _, _, rfl, by omega, by omega, ?_⟩
    exact ⟨_, rfl, z, _, dz, _, _, rfl, hz, T.cl_Prices, T.na_Prices__cents, rfl, _, rfl, t, cs, n, rfl, ht, ⟨c.1, c.2.1, fun x hx => by have := c.2.2 x hx; omega⟩, k⟩
theorem ok_Prices_getitem (T : Txt K mg a) : FnOk P w K mg base CX0 2 a.f_Prices_getitem a.d_Prices_getitem ["self", "at"] (spPget a) := by
  have G_check_number : FnOk P w K mg base CX0 1 a.f_check_number a.d_check_number ["number", "least", "greatest"] spNum := ok_check_number T
  refine T.F_Prices_getitem.ok sc_Prices_getitem (fun vs H Q E h => ?_) (fun cdv A outer s H vs Q E hr h => ?_)
  · obtain ⟨z, cs, n, rfl, _⟩ := h
    rfl
  · obtain ⟨z, cs, n, rfl, ⟨dz, t, hz, ht⟩, c, n18, k⟩ := h
    refine ⟨_, (pss_cons (ps_expr (pe_call G_check_number (hr.mono (by decide)) (by rfl) T.mg_check_number T.F_check_number.kp (b_check_number T) .nil pass0 (pa_cons (pv 1) (pa_cons pe_int (pa_cons (pe_glob (v := .int 1000000000000000000) rfl T.mg_MOST_TICKS.choose_spec ⟨_, rfl⟩) pa_nil)))))
      (pss_one (ps_ret (pe_ix (show IxR _ (rIxT K) from ix_tup) (pe_fld (pv 0) rfl) (pe_op op_mod (pv 1) (pe_callB call_len_seq (by rfl) T.z_len PySem.boot_len (pa_cons (pe_fld (pv 0) rfl) pa_nil))) (fun _ _ => rfl))))), ?_⟩
    have n1 : (cs.map V.int).length = cs.length := List.length_map _
    have c1 := c.1
    refine ⟨_, rfl, _, _, _, rfl, by omega, by omega, ?_⟩
    refine ⟨_, rfl, z, _, dz, _, _, rfl, hz, T.cl_Prices, T.na_Prices__cents, rfl, _, rfl, _, rfl, z, _, dz, _, _, rfl, hz, T.cl_Prices, T.na_Prices__cents, rfl, t, _, rfl, .inr (SqT.of ht), _, _, rfl, rfl, by rw [n1]; omega, t, _, _, _, rfl, rfl, SqT.of ht, ?_, k⟩
    have l : n % cs.length < cs.length := Nat.mod_lt _ (by omega)
    have e : (n : Int) % (((cs.map V.int).length : Nat) : Int) = ((n % cs.length : Nat) : Int) := by rw [n1]; rfl
    rw [e]
    refine at_int (Int.natCast_nonneg _) ?_
    show (cs.map V.int)[n % cs.length]? = _
    rw [List.getElem?_map, List.getElem?_eq_getElem l]
    simp [Th.chAt, List.getD, List.getElem?_eq_getElem l]
theorem ok_Prices_eq (T : Txt K mg a) (WN : POp K a) : FnOk P w K mg base CX0 3 a.f_Prices_eq a.d_Prices_eq ["self", "other"] (spPeq a) := by
  have G_same_rounds : FnOk P w K mg base CX0 1 a.f_same_rounds a.d_same_rounds ["one", "other"] spSame := ok_same_rounds T
  have G_Prices_cents : FnOk P w K mg base CX0 1 a.f_Prices_cents a.d_Prices_cents ["self"] (getSp a.c_Prices "_cents") := ok_Prices_cents T
  refine T.F_Prices_eq.ok sc_Prices_eq (fun vs H Q E h => ?_) (fun cdv A outer s H vs Q E hr h => ?_)
  · obtain ⟨y, z, cs, ds, rfl, _⟩ := h
    rfl
  · obtain ⟨y, z, cs, ds, rfl, ⟨dy, t, hy, ht⟩, ⟨dz, u, hz, hu⟩, c, d, k⟩ := h
    refine ⟨_, (pss_one (ps_ret (pe_and (pe_callB call_isi (by rfl) T.z_isinstance (by decide +kernel) (pa_cons (pv 1) (pa_cons (pe_glob (v := .ref a.c_Prices) (by rfl) T.mg_Prices rfl) pa_nil))) (pe_one (pe_call G_same_rounds (hr.mono (by decide)) (by rfl) T.mg_same_rounds T.F_same_rounds.kp (b_same_rounds T) .nil pass0 (pa_cons (pe_fld (pv 0) rfl) (pa_cons (pe_prop (pv 1) T.cl_Prices T.pr_Prices_cents G_Prices_cents (hr.mono (by decide)) (b_Prices_cents T) .nil pass0 rfl) pa_nil))))))), ?_⟩
    refine ⟨_, rfl, _, _, _, _, true, rfl, .own _, .base (.ins hz T.cl_Prices WN.cc WN.hn WN.tk WN.mo), WN.kit, true, rfl, ?_⟩
    exact ⟨_, rfl, y, _, dy, _, _, rfl, hy, T.cl_Prices, T.na_Prices__cents, rfl, _, rfl, z, dz, _, rfl, hz, z, dz, _, _, rfl, hz, rfl, t, u, cs, ds, rfl, ht, hu, c.1, c.2.1, d.1, d.2.1, k⟩
theorem okx_Prices_mul (T : Txt K mg a) (ER : E2T P K mg er) : FnOk P w K mg base (L2.CX P w) 5 a.f_Prices_mul a.d_Prices_mul ["self", "times"] (spPmX a er) := by
  have G_Prices_init := okx_Prices_init (P := P) (w := w) (base := base) T ER
  refine T.F_Prices_mul.okX sc_Prices_mul (fun vs H Q E h => ?_) (fun cdv A outer s H vs Q E hr h => ?_)
  · obtain ⟨z, cs, n, rfl, _⟩ := h
    rfl
  · obtain ⟨z, cs, n, rfl, ⟨dz, t, hz, ht⟩, cc, k, kb⟩ := h
    refine ⟨_, (pss_cons (ps_setLc (i := 2) (own := [("price", 3)]) (g := gName 3) rfl sc_Prices_mul.nd rfl rfl (sw_true rfl rfl rfl (by decide +kernel)) (pi_tup (pe_fld (pv 0) rfl)) (blkOk_by (own := [("price", 3)]) (N := ["self", "times", "multiplied", "price"]) (sc := (defScope s_Prices_mul)) (by decide +kernel)) (fun _ _ _ _ _ => pg_name (i := 3) sc_Prices_mul.nd rfl (Or.inl rfl)) (fun _ _ _ _ _ => pts_nil) (fun _ _ _ _ _ => (pe_op op_mul (pv 3) (pv 1))))
      (pss_one (ps_ret (pe_makeSt T.mk_Prices G_Prices_init (hr.mono (by decide)) (by rfl) T.mg_Prices (passes_call (takes_of rfl rfl rfl rfl) (fun _ _ _ _ h => h)) (pv 2))))), ?_⟩
    refine ⟨_, rfl, z, _, dz, _, _, rfl, hz, T.cl_Prices, T.na_Prices__cents, rfl, t, rfl, ⟨_, SqT.of ht⟩, fun D nD => lc_tup (K := K) (a := t) (xs := cs.map V.int) (fun i H2 => Same H H2 ∧ H2 D = some (.lst (((cs.take i).map fun c => c * n).map V.int))) ⟨same_upd nD, upd_same⟩ (fun j H2 _ q => SqT.of (q.1 _ _ ht)) ?_ ?_⟩
    · rintro j v H2 hx ⟨s2, hD⟩
      obtain ⟨c, hc, rfl⟩ := intAt hx
      refine ⟨rfl, _, rfl, _, rfl, _, _, rfl, rfl, (.inl (by have := cc.2.2 c (List.mem_of_getElem? hc); constructor <;> omega)), _, hD, by rw [List.length_map, List.length_map]; exact Nat.lt_of_le_of_lt (Nat.le_trans (List.length_take_le' _ _) (Nat.le_trans cc.2.1 (by decide : 24 ≤ 1000))) (by decide), fun b u e => by rw [upd_ne (ne_of_none e nD)]; exact s2 _ _ e, ?_⟩
      rw [upd_same, List.take_succ, hc]
      simp
    · rintro H2 ⟨s2, hD⟩
      rw [List.length_map, List.take_length] at hD
      exact ⟨_, rfl, D, _, rfl, .inr (SqL.of hD), prices_madeX (cs := cs.map fun c => c * n) (by rw [List.length_map]; exact Nat.le_trans cc.2.1 (by decide)) (fun g v H3 s3 wt => k g v H3 (s2.trans s3) wt) fun i d H3 hb s3 hd => kb i d H3 hb (s2.trans s3) hd⟩
theorem okT_Prices_eq (T : Txt K mg a) (WN : POp K a) : FnOk P w K mg base CX0 3 a.f_Prices_eq a.d_Prices_eq ["self", "other"] (spPeqT a) := by
  have G_same_rounds : FnOk P w K mg base CX0 1 a.f_same_rounds a.d_same_rounds ["one", "other"] spSame := ok_same_rounds T
  have G_Prices_cents : FnOk P w K mg base CX0 1 a.f_Prices_cents a.d_Prices_cents ["self"] (getSp a.c_Prices "_cents") := ok_Prices_cents T
  refine T.F_Prices_eq.ok sc_Prices_eq (fun vs H Q E h => ?_) (fun cdv A outer s H vs Q E hr h => ?_)
  · obtain ⟨y, t, cs, xs, rfl, _⟩ := h
    rfl
  · obtain ⟨y, t, cs, xs, rfl, ⟨dy, u, hy, hu⟩, ht, k⟩ := h
    refine ⟨_, (pss_one (ps_ret (pe_and (pe_callB call_isi (by rfl) T.z_isinstance (by decide +kernel) (pa_cons (pv 1) (pa_cons (pe_glob (v := .ref a.c_Prices) (by rfl) T.mg_Prices rfl) pa_nil))) (pe_one (pe_call G_same_rounds (hr.mono (by decide)) (by rfl) T.mg_same_rounds T.F_same_rounds.kp (b_same_rounds T) .nil pass0 (pa_cons (pe_fld (pv 0) rfl) (pa_cons (pe_prop (pv 1) T.cl_Prices T.pr_Prices_cents G_Prices_cents (hr.mono (by decide)) (b_Prices_cents T) .nil pass0 rfl) pa_nil))))))), ?_⟩
    refine ⟨_, rfl, _, _, _, _, false, rfl, .own _, .base (.tup ht), WN.kt, false, rfl, ?_⟩
    exact k
theorem rx_Prices_getitem (T : Txt K mg a) (ER : E2T P K mg er) : FnOk P w K mg base (L2.CX P w) 2 a.f_Prices_getitem a.d_Prices_getitem ["self", "at"] (spPnX a er) := by
  have Gx_check_number := okx_check_number (P := P) (w := w) (base := base) T ER
  refine T.F_Prices_getitem.okX sc_Prices_getitem (fun vs H Q E h => ?_) (fun cdv A outer s H vs Q E hr h => ?_)
  · obtain ⟨y, cs, n, rfl, _⟩ := h
    rfl
  · obtain ⟨y, cs, n, rfl, _, bad, h⟩ := h
    exact ⟨_, (pss_cons (ps_expr (pe_call Gx_check_number (hr.mono (by decide)) (by rfl) T.mg_check_number T.F_check_number.kp (b_check_number T) .nil (passes_call (takes_of rfl rfl rfl rfl) (fun _ _ _ _ h => h)) (pa_cons (pv 1) (pa_cons pe_int (pa_cons (pe_glob (v := .int 1000000000000000000) rfl T.mg_MOST_TICKS.choose_spec ⟨_, rfl⟩) pa_nil)))))
      pss_never), ⟨_, rfl, _, _, _, rfl, fun q => absurd q bad, fun _ => h⟩⟩
theorem rx_Prices_call (T : Txt K mg a) (ER : E2T P K mg er) : FnOk P w K mg base (L2.CX P w) 2 a.f_Prices_call a.d_Prices_call ["self", "count"] (spPnX a er) := by
  have Gx_check_number := okx_check_number (P := P) (w := w) (base := base) T ER
  refine T.F_Prices_call.okX sc_Prices_call (fun vs H Q E h => ?_) (fun cdv A outer s H vs Q E hr h => ?_)
  · obtain ⟨y, cs, n, rfl, _⟩ := h
    rfl
  · obtain ⟨y, cs, n, rfl, _, bad, h⟩ := h
    exact ⟨_, (pss_cons (ps_expr (pe_call Gx_check_number (hr.mono (by decide)) (by rfl) T.mg_check_number T.F_check_number.kp (b_check_number T) .nil (passes_call (takes_of rfl rfl rfl rfl) (fun _ _ _ _ h => h)) (pa_cons (pv 1) (pa_cons pe_int (pa_cons (pe_glob (v := .int 1000000000000000000) rfl T.mg_MOST_TICKS.choose_spec ⟨_, rfl⟩) pa_nil)))))
      pss_never), ⟨_, rfl, _, _, _, rfl, fun q => absurd q bad, fun _ => h⟩⟩
end
end W6

namespace W6
open PySem PySem.Spec PyProof.Rows L2 Ru StX LamX
def spPrices (a : Ad) : Sp := fun vs H Q _ => ∃ (l : Addr) (cs : List Int), vs = [.ref l] ∧ H l = some (.lst (cs.map V.int)) ∧ CP cs ∧ cs.length ≤ 4 ∧ ∀ z H', Same H H' → PAt a H' z cs → Q (.ref z) H'
/-- what the making of prices asks where nothing is wrong -/
theorem prices_made {a : Ad} {er : Er2} {H : Hp} {Q : VK} {cs : List Int} (c : CP cs) (k : ∀ z H', Same H H' → PAt a H' z cs → Q (.ref z) H') : ∀ x dx, H x = none → H dx = none → dx ≠ x → spPsX a er (V.ref x :: cs.map V.int) (upd (upd H dx (.own x)) x (.ins a.c_Prices dx [])) (fun v H2 => v = .non ∧ Q (.ref x) H2) fun _ _ _ => False :=
  prices_madeX (Nat.le_trans c.2.1 (by decide)) (fun _ => k) fun i d H' hb _ _ => c.good hb
theorem prices_in {a : Ad} {er : Er2} {H : Hp} {x dx : Addr} {R : VK} {cs : List Int} (c : CP cs) (nx : H x = none) (nd : H dx = none) (ne : dx ≠ x) (k : ∀ H', Same H H' → PAt a H' x cs → R .non H') : spPsX a er (V.ref x :: cs.map V.int) (upd (upd H dx (.own x)) x (.ins a.c_Prices dx [])) R fun _ _ _ => False := by
  refine ⟨[.ref x], cs.map V.int, rfl, rfl, by rw [List.length_map]; exact Nat.le_of_lt (small1000 (Nat.le_trans c.2.1 (by decide))), fun p hp => ?_⟩
  have npx : x ≠ p := ne_of_none upd_same hp
  have s1 := same_upd (o := .tup (cs.map V.int)) hp
  exact ⟨x, dx, p, cs, rfl, s1 _ _ upd_same, upd_same, Nat.le_trans c.2.1 (by decide), fun _ H' fr pt => k H' (Fr1.made nx nd ((Fr1.of s1).trans fr)) pt, fun i d H' hb _ _ => c.good hb⟩
section
variable {P : Program} {w : World} {K : PySem.W.Frag} {mg : Str → Option Value} {base : Heap} {a : Ad} {er : Er2}
theorem ok__law_prices (T : Txt K mg a) (ER : E2T P K mg er) : FnOk P w K mg base CX0 5 a.f__law_prices a.d__law_prices ["_law_cents"] (spPrices a) := by
  have G_Prices_init := okx_Prices_init (P := P) (w := w) (base := base) T ER
  refine T.F__law_prices.ok sc__law_prices (fun vs H Q E h => ?_) (fun cdv A outer s H vs Q E hr h => ?_)
  · obtain ⟨l, cs, rfl, _⟩ := h
    rfl
  · obtain ⟨l, cs, rfl, hl, c, c4, k⟩ := h
    refine ⟨_, (pss_cons (ps_if (pt_cmpR op_eq (pe_callB call_len_seq (by rfl) T.z_len PySem.boot_len (pa_cons (pv 0) pa_nil)) pe_int (nomark _)) (pss_one (ps_ret (pe_makeR T.mk_Prices G_Prices_init (hr.mono (by decide)) (by rfl) T.mg_Prices (passNo rfl rfl) (pa_cons (pe_ix ix_list (pv 0) pe_int (fun _ _ => rfl)) pa_nil)))) pss_nil)
      (pss_cons (ps_if (pt_cmpR op_eq (pe_callB call_len_seq (by rfl) T.z_len PySem.boot_len (pa_cons (pv 0) pa_nil)) pe_int (nomark _)) (pss_one (ps_ret (pe_makeR T.mk_Prices G_Prices_init (hr.mono (by decide)) (by rfl) T.mg_Prices (passNo rfl rfl) (pa_cons (pe_ix ix_list (pv 0) pe_int (fun _ _ => rfl)) (pa_cons (pe_ix ix_list (pv 0) pe_int (fun _ _ => rfl)) pa_nil))))) pss_nil)
      (pss_cons (ps_if (pt_cmpR op_eq (pe_callB call_len_seq (by rfl) T.z_len PySem.boot_len (pa_cons (pv 0) pa_nil)) pe_int (nomark _)) (pss_one (ps_ret (pe_makeR T.mk_Prices G_Prices_init (hr.mono (by decide)) (by rfl) T.mg_Prices (passNo rfl rfl) (pa_cons (pe_ix ix_list (pv 0) pe_int (fun _ _ => rfl)) (pa_cons (pe_ix ix_list (pv 0) pe_int (fun _ _ => rfl)) (pa_cons (pe_ix ix_list (pv 0) pe_int (fun _ _ => rfl)) pa_nil)))))) pss_nil)
      (pss_one (ps_ret (pe_makeR T.mk_Prices G_Prices_init (hr.mono (by decide)) (by rfl) T.mg_Prices (passNo rfl rfl) (pa_cons (pe_ix ix_list (pv 0) pe_int (fun _ _ => rfl)) (pa_cons (pe_ix ix_list (pv 0) pe_int (fun _ _ => rfl)) (pa_cons (pe_ix ix_list (pv 0) pe_int (fun _ _ => rfl)) (pa_cons (pe_ix ix_list (pv 0) pe_int (fun _ _ => rfl)) pa_nil)))))))))), ?_⟩
    have c1 := c.1
    have sl := SqL.of (K := K) hl
    match cs, c1, c4 with
    | [], c1, _ => simp at c1
    | [u], _, _ =>
      refine ⟨_, rfl, l, _, rfl, .inl sl, rfl, _, rfl, ifT rfl ?_⟩
      exact ⟨_, rfl, l, _, _, _, rfl, rfl, sl, rfl, prices_made (cs := [u]) c k⟩
    | [u, v], _, _ =>
      refine ⟨_, rfl, l, _, rfl, .inl sl, rfl, _, rfl, ifF rfl ?_⟩
      refine ⟨_, rfl, l, _, rfl, .inl sl, rfl, _, rfl, ifT rfl ?_⟩
      exact ⟨_, rfl, l, _, _, _, rfl, rfl, sl, rfl, _, rfl, l, _, _, _, rfl, rfl, sl, rfl, prices_made (cs := [u, v]) c k⟩
    | [u, v, x], _, _ =>
      refine ⟨_, rfl, l, _, rfl, .inl sl, rfl, _, rfl, ifF rfl ?_⟩
      refine ⟨_, rfl, l, _, rfl, .inl sl, rfl, _, rfl, ifF rfl ?_⟩
      refine ⟨_, rfl, l, _, rfl, .inl sl, rfl, _, rfl, ifT rfl ?_⟩
      exact ⟨_, rfl, l, _, _, _, rfl, rfl, sl, rfl, _, rfl, l, _, _, _, rfl, rfl, sl, rfl, _, rfl, l, _, _, _, rfl, rfl, sl, rfl, prices_made (cs := [u, v, x]) c k⟩
    | [u, v, x, y], _, _ =>
      refine ⟨_, rfl, l, _, rfl, .inl sl, rfl, _, rfl, ifF rfl ?_⟩
      refine ⟨_, rfl, l, _, rfl, .inl sl, rfl, _, rfl, ifF rfl ?_⟩
      refine ⟨_, rfl, l, _, rfl, .inl sl, rfl, _, rfl, ifF rfl ?_⟩
      exact ⟨_, rfl, l, _, _, _, rfl, rfl, sl, rfl, _, rfl, l, _, _, _, rfl, rfl, sl, rfl, _, rfl, l, _, _, _, rfl, rfl, sl, rfl, _, rfl, l, _, _, _, rfl, rfl, sl, rfl, prices_made (cs := [u, v, x, y]) c k⟩
    | u :: v :: x :: y :: m :: r, _, c4 => simp at c4
def spLong (K : PySem.W.Frag) : Sp := fun vs H Q _ => ∃ (x y : Addr), vs = [.ref x] ∧ LS K H x y ∧ ∀ H', Q (.bl true) H'
theorem ok__law_long (T : Txt K mg a) (ER : E2T P K mg er) (PO : POp K a) : FnOk P w K mg base CX0 5 a.f__law_long a.d__law_long ["_law_state"] (spLong K) := by
  have G_Prices_init := okx_Prices_init (P := P) (w := w) (base := base) T ER
  have G__law_drawn : FnOk P w K mg base CX0 1 a.f__law_drawn a.d__law_drawn ["_law_state", "_law_count"] (spDrawn K) := ok__law_drawn T
  have G_Prices_call : FnOk P w K mg base CX0 2 a.f_Prices_call a.d_Prices_call ["self", "count"] (spPcall a) := ok_Prices_call T
  have G_Prices_getitem : FnOk P w K mg base CX0 2 a.f_Prices_getitem a.d_Prices_getitem ["self", "at"] (spPget a) := ok_Prices_getitem T
  refine T.F__law_long.ok sc__law_long (fun vs H Q E h => ?_) (fun cdv A outer s H vs Q E hr h => ?_)
  · obtain ⟨x, y, rfl, _⟩ := h
    rfl
  · obtain ⟨x, y, rfl, ls, k⟩ := h
    refine ⟨_, (pss_cons (ps_setLc (i := 1) (own := [("_law_k", 2)]) (g := gName 2) rfl sc__law_long.nd rfl rfl (sw_true rfl rfl rfl (by decide +kernel)) (pi_range1 (by rfl) T.z_range (pa_cons pe_int pa_nil)) (blkOk_by (own := [("_law_k", 2)]) (N := ["_law_state", "_law_row", "_law_k", "_law_prices_here", "_law_count"]) (sc := (defScope s__law_long)) (by decide +kernel)) (fun _ _ _ _ _ => pg_name (i := 2) sc__law_long.nd rfl (Or.inl rfl)) (fun _ _ _ _ _ => pts_nil) (fun _ _ _ _ _ => (pe_call G__law_drawn (hr.mono (by decide)) (by rfl) T.mg__law_drawn T.F__law_drawn.kp (b__law_drawn T) .nil pass0 (pa_cons (pv 0) (pa_cons pe_int pa_nil)))))
      (pss_cons (ps_set (i := 3) sc__law_long.nd rfl (Or.inl rfl) (pe_makeR T.mk_Prices G_Prices_init (hr.mono (by decide)) (by rfl) T.mg_Prices (passNo rfl rfl) (pa_cons (pe_ix ix_list (pv 1) pe_int (fun _ _ => rfl)) (pa_cons (pe_ix ix_list (pv 1) pe_int (fun _ _ => rfl)) (pa_cons (pe_ix ix_list (pv 1) pe_int (fun _ _ => rfl)) (pa_cons (pe_ix ix_list (pv 1) pe_int (fun _ _ => rfl)) (pa_cons (pe_ix ix_list (pv 1) pe_int (fun _ _ => rfl)) (pa_cons (pe_ix ix_list (pv 1) pe_int (fun _ _ => rfl)) (pa_cons (pe_ix ix_list (pv 1) pe_int (fun _ _ => rfl)) (pa_cons (pe_ix ix_list (pv 1) pe_int (fun _ _ => rfl)) (pa_cons (pe_ix ix_list (pv 1) pe_int (fun _ _ => rfl)) (pa_cons (pe_ix ix_list (pv 1) pe_int (fun _ _ => rfl)) pa_nil))))))))))))
      (pss_cons (ps_for PassesOwn.never rfl (pi_range2 (by rfl) T.z_range (pa_cons pe_int (pa_cons pe_int pa_nil))) (pg_name (i := 4) sc__law_long.nd rfl (Or.inl rfl))
        (pss_one (ps_if (pt_cmpR op_ne (Ru.pe_callO (i := 3) T.me_Prices_call PO.fc G_Prices_call (b_Prices_call T) (hr.mono (by decide)) pass0 rfl (.inl rfl) (pa_cons (pv 4) pa_nil)) (pe_op op_add (pe_op op_mul (pe_op op_fdiv (pv 4) pe_int) (pe_callB (cr_sum rfl) (by rfl) T.z_sum (by decide +kernel) (pa_cons (pv 1) pa_nil))) (pe_callB (cr_sum rfl) (by rfl) T.z_sum (by decide +kernel) (pa_cons (pe_slice sl_list (pv 1) po_none (po_some (pe_op op_mod (pv 4) pe_int))) pa_nil))) (nomark _)) (pss_one (ps_ret pe_bl)) pss_nil)))
      (pss_one (ps_ret (pe_cmpR op_eq (pe_ixOwn T.me_Prices_getitem PO.fg G_Prices_getitem (b_Prices_getitem T) (hr.mono (by decide)) pass0 (pv 3) (pe_op op_sub (pe_op op_add (pe_op op_pow pe_int pe_int) pe_int) pe_int)) (pe_ix ix_list (pv 1) pe_int (fun _ _ => rfl)) (nomark _))))))), ?_⟩
    refine ⟨10, rfl, by decide, by decide, fun D nD => have ny := ls.fresh nD; lc_range (lo := 0) (n := (10 : Int).toNat) (fun i H' => ∃ rs : List Int, rs.length = i ∧ (∀ r ∈ rs, 0 ≤ r ∧ r < 9) ∧ H' D = some (.lst (rs.map V.int)) ∧ LS K H' x y) ⟨[], rfl, ⟨(fun r hr => by cases hr), upd_same, ls.same (same_upd nD)⟩⟩ ?_ ?_⟩
    · rintro i H' hi ⟨rs, rl, rb, hD, ls'⟩
      have hi : i < 10 := hi
      refine ⟨rfl, _, rfl, x, y, 9, rfl, ls', by decide, by decide, fun r H2 r0 r1 ls2 k2 => ?_⟩
      have hD2 := k2 _ _ (ls.off nD) hD
      refine ⟨_, hD2, by rw [List.length_map]; exact small1000 (by omega), rs ++ [r], by rw [List.length_append, rl]; rfl, fun z hz => ?_, by rw [upd_same, List.map_append]; rfl, ?_⟩
      · rcases List.mem_append.mp hz with hz | hz
        · exact rb z hz
        · rw [List.mem_singleton.mp hz]; exact ⟨r0, r1⟩
      · exact ls2.updD (ls.off nD) ny
    · rintro H1 ⟨rs, rl, rb, hD, ls1⟩
      match rs, rl, rb, hD with
      | [r0, r1, r2, r3, r4, r5, r6, r7, r8, r9], _, rb, hD =>
      have sl := SqL.of (K := K) hD
      have cp : CP [r0, r1, r2, r3, r4, r5, r6, r7, r8, r9] := ⟨by show 1 ≤ 10; decide, by show 10 ≤ 24; decide, fun c hc => by have := rb c hc; omega⟩
      refine ⟨_, rfl, D, _, _, _, rfl, rfl, sl, rfl, _, rfl, D, _, _, _, rfl, rfl, sl, rfl, _, rfl, D, _, _, _, rfl, rfl, sl, rfl, _, rfl, D, _, _, _, rfl, rfl, sl, rfl, _, rfl, D, _, _, _, rfl, rfl, sl, rfl, _, rfl, D, _, _, _, rfl, rfl, sl, rfl, _, rfl, D, _, _, _, rfl, rfl, sl, rfl, _, rfl, D, _, _, _, rfl, rfl, sl, rfl, _, rfl, D, _, _, _, rfl, rfl, sl, rfl, _, rfl, D, _, _, _, rfl, rfl, sl, rfl, fun z dz nz ndz ez => prices_in (cs := [r0, r1, r2, r3, r4, r5, r6, r7, r8, r9]) cp nz ndz ez fun H2 s2 pz => ⟨rfl, ?_⟩⟩
      have hD2 := s2 _ _ hD
      generalize e : [r0, r1, r2, r3, r4, r5, r6, r7, r8, r9] = rs at *
      have rl : rs.length = 10 := by rw [← e]; rfl
      clear hD sl s2 ls1
      dsimp only [List.set_cons_succ, List.set_cons_zero]
      refine g_seq ?_
      show tFor _ _ _ _ [some (.ref x), some (.ref D), none, some (.ref z), none] H2
      obtain ⟨dz2, tz, hz, htz⟩ := id pz
      have ln : (rs.map V.int).length = rs.length := List.length_map _
      refine ⟨9, 21, rfl, ⟨by decide, by decide, by decide, by decide⟩, for_range (lo := 9) (n := ((21 : Int) - 9).toNat) (fun i σ H' => (∃ o4, σ = [some (.ref x), some (.ref D), none, some (.ref z), o4]) ∧ Same H2 H') ⟨⟨none, rfl⟩, Same.refl _⟩ ?_ ?_⟩
      · rintro i σ H' hi ⟨⟨o4, rfl⟩, s3⟩
        have hi : i < 12 := hi
        have e9 : (9 : Int) + (i : Int) = ((9 + i : Nat) : Int) := by omega
        refine ⟨z, rfl, _, rfl, dz2, _, s3 _ _ hz, z, rs, 9 + i, congrArg (fun u => [V.ref z, V.int u]) e9, pz.same s3, cp, by omega, fun H4 s4 => ?_⟩
        have hD4 := s4 _ _ (s3 _ _ hD2)
        refine ⟨_, rfl, _, _, rfl, rfl, ⟨by decide, by decide⟩, _, rfl, D, rs, rfl, SqL.of hD4, _, _, rfl, rfl, .inl ⟨by omega, by omega⟩, ?_⟩
        refine ⟨_, rfl, _, rfl, _, _, rfl, rfl, by show (0 : Int) < 10; decide, ((9 + i) % 10 : Nat), by rw [e9]; rfl, D, _, rfl, SqL.of hD4, fun p np => ?_⟩
        rw [cutPre]
        have s5 := same_upd (o := .lst ((rs.take ((9 + i) % 10)).map V.int)) np
        refine ⟨p, _, rfl, SqL.of upd_same, _, _, rfl, rfl, rfl, _, rfl, ifF ?_ ⟨⟨_, rfl⟩, (s3.trans s4).trans s5⟩⟩
        refine ndF (congrArg V.int ?_)
        rw [Th.sumTo_eq (by omega)]
        unfold Th.rsum Th.pre
        rw [rl, e9]
        simp
      · rintro σ H' ⟨⟨o4, rfl⟩, s3⟩
        dsimp only
        have hat : atI (rs.map V.int) 9 = some (.int (Th.chAt rs 999999999999999999)) := by
          refine at_int (by decide) ?_
          have : rs[9]? = some (Th.chAt rs 999999999999999999) := by
            unfold Th.chAt
            rw [rl]
            show rs[9]? = some (rs.getD 9 0)
            rw [List.getD_eq_getElem?_getD, List.getElem?_eq_getElem (show 9 < rs.length by omega)]
            rfl
          show (rs.map V.int)[9]? = _
          rw [List.getElem?_map, this]
          rfl
        refine ⟨_, rfl, _, _, rfl, rfl, ⟨by decide, by decide, by decide⟩, _, _, rfl, rfl, _, _, rfl, rfl, z, dz2, _, rfl, s3 _ _ hz, z, rs, 999999999999999999, congrArg (fun u => [V.ref z, V.int u]) (by rw [pow18]; rfl), pz.same s3, cp, by decide, ?_⟩
        refine ⟨_, rfl, D, _, _, _, rfl, rfl, SqL.of (s3 _ _ hD2), hat, rfl, ?_⟩
        rw [show (decide (V.int (Th.chAt rs 999999999999999999) = V.int (Th.chAt rs 999999999999999999))) = true from decide_eq_true rfl]
        exact k _
end
end W6

namespace W6
open PySem PySem.Spec PyProof.Rows L2 Ru StX LamX
def spRefused (a : Ad) (Tb : List (Addr × Str)) : Sp := fun vs H Q _ => ∃ (z : Addr) (cs : List Int) (v : Int), vs = [.ref z, .int v] ∧ PAt a H z cs ∧ (v < 0 ∨ 1000000 < v) ∧ Tabs Tb H ∧ ∀ H', ExtN H H' → Tabs Tb H' → Q (.bl true) H'
theorem PAt.ext {a : Ad} {H H' : Hp} {z : Addr} {cs : List Int} (h : PAt a H z cs) (e : ExtN H H') : PAt a H' z cs := let ⟨dx, t, h1, h2⟩ := h; ⟨dx, t, e _ _ h1 (fun _ z => nomatch z), e _ _ h2 (fun _ z => nomatch z)⟩
theorem prices_inX {a : Ad} {er : Er2} {H : Hp} {x dx : Addr} {R : VK} {E : XK} {cs : List Int} (hz : cs.length ≤ 1000) (nx : H x = none) (nd : H dx = none) (ne : dx ≠ x) (k : CP cs → ∀ H', Same H H' → PAt a H' x cs → R .non H') (kb : BadPr er cs H E) : spPsX a er (V.ref x :: cs.map V.int) (upd (upd H dx (.own x)) x (.ins a.c_Prices dx [])) R E := by
  refine ⟨[.ref x], cs.map V.int, rfl, rfl, by rw [List.length_map]; exact Nat.le_of_lt (small1000 hz), fun p hp => ?_⟩
  have npx : x ≠ p := ne_of_none upd_same hp
  have s1 := same_upd (o := .tup (cs.map V.int)) hp
  exact ⟨x, dx, p, cs, rfl, s1 _ _ upd_same, upd_same, hz, fun c H' fr pt => k c H' (Fr1.made nx nd ((Fr1.of s1).trans fr)) pt, fun i d H' hb sm hd => kb i d H' hb ((same_made nx nd).trans (s1.trans sm)) hd⟩
theorem badP_uniq {ns : List Int} {i j : Nat} (h : BadP ns i) (g : BadP ns j) : i = j := by
  rcases h with ⟨e, rfl⟩ | ⟨c, h1, h2, h3⟩
  · rcases g with ⟨_, rfl⟩ | ⟨d, g1, _⟩
    · rfl
    · rw [e] at g1; simp at g1
  · rcases g with ⟨e, _⟩ | ⟨d, g1, g2, g3⟩
    · rw [e] at h1; simp at h1
    · rcases Nat.lt_trichotomy i j with l | l | l
      · exact absurd (g3 i c l h1) h2
      · exact l
      · exact absurd (h3 j d l g1) g2
theorem dl_three {H : Hp} {p q r D : Addr} {s t u : List V} (hp : H p = some (.tup s)) (hq : H q = some (.tup t)) (hr : H r = some (.tup u)) (hD : H D = some (.lst [.ref p, .ref q, .ref r])) : DL H D [s, t, u] := ⟨[p, q, r], hD, rfl, fun m u v a b => match m, a, b with | 0, a, b => by cases a; cases b; exact hp | 1, a, b => by cases a; cases b; exact hq | 2, a, b => by cases a; cases b; exact hr⟩
section
variable {P : Program} {w : World} {K : PySem.W.Frag} {mg : Str → Option Value} {base : Heap} {a : Ad} {er : Er2}
theorem ok__law_refused {cf Pf : Addr} {Tb : List (Addr × Str)} (T : Txt K mg a) (ER : E2T P K mg er) (PO : POp K a) (hcf : a.d__law_refused.code = .ref cf) (TBf : TabB base mg cf Pf) (hmem : (Pf, (("_law_refused" : Str) ++ ".<locals>.") ++ "<lambda>") ∈ Tb) (huni : ∀ p ∈ Tb, p.1 = Pf → p.2 = (("_law_refused" : Str) ++ ".<locals>.") ++ "<lambda>") : FnOk P w K mg base CX0 13 a.f__law_refused a.d__law_refused ["_law_prices_here", "_law_wrong"] (spRefused a Tb) := by
  have Gx_Prices_init := okx_Prices_init (P := P) (w := w) (base := base) T ER
  have Gx_Prices_getitem := rx_Prices_getitem (P := P) (w := w) (base := base) T ER
  have Gx_Prices_call := rx_Prices_call (P := P) (w := w) (base := base) T ER
  refine okC T.F__law_refused hcf sc__law_refused (fun vs H Q E h => ?_) (fun A outer s H vs Q E hr h => ?_)
  · obtain ⟨z, cs, v, rfl, _⟩ := h
    rfl
  · obtain ⟨z, cs, v, rfl, pz, bv, hT, k⟩ := h
    refine ⟨_, (pss_cons (ps_set (i := 2) sc__law_refused.nd rfl (Or.inl rfl) (pe_lst (pa_cons (pe_lam0 (T := Tb) (P := Pf) TBf rfl hmem huni (lamS2_by (N := ["_law_prices_here", "_law_wrong", "_law_works", "_law_work"]) (sc := defScope s__law_refused) (by decide +kernel)) rfl) (pa_cons (pe_lam1 (T := Tb) (P := Pf) TBf rfl hmem huni (lamS2_by (N := ["_law_prices_here", "_law_wrong", "_law_works", "_law_work"]) (sc := defScope s__law_refused) (by decide +kernel)) rfl rfl pe_int) (pa_cons (pe_lam1 (T := Tb) (P := Pf) TBf rfl hmem huni (lamS2_by (N := ["_law_prices_here", "_law_wrong", "_law_works", "_law_work"]) (sc := defScope s__law_refused) (by decide +kernel)) rfl rfl pe_int) pa_nil)))))
      (pss_cons (ps_if (pt_cmpR (op_neD hr.units) (pe_lcI (own := [("_law_work", 3)]) (g := gName 3) rfl sc__law_refused.nd (pi_list (pv 2)) (blkOk_by (own := [("_law_work", 3)]) (N := ["_law_prices_here", "_law_wrong", "_law_works", "_law_work"]) (sc := defScope s__law_refused) (by decide +kernel)) (fun _ _ _ _ _ => pg_name (i := 3) sc__law_refused.nd rfl (Or.inl rfl)) (fun _ _ _ _ _ => pts_nil) (fun _ _ _ _ _ _ _ I0 hf => pe_give2B (k := 8) I0 hf (give_outcome T ER) (by rfl) (hr.mono (by decide)) (by decide) (pa_cons (pv 3) pa_nil))) (pe_lst (pa_cons (pe_tup (pa_cons pe_str (pa_cons pe_int pa_nil))) (pa_cons (pe_tup (pa_cons pe_str (pa_cons pe_int pa_nil))) (pa_cons (pe_tup (pa_cons pe_str (pa_cons pe_int pa_nil))) pa_nil)))) (nomark _)) (pss_one (ps_ret pe_bl)) pss_nil)
      (pss_cons (ps_set (i := 2) sc__law_refused.nd rfl (Or.inl rfl) (pe_lst (pa_cons (pe_lam0 (T := Tb) (P := Pf) TBf rfl hmem huni (lamS2_by (N := ["_law_prices_here", "_law_wrong", "_law_works", "_law_work"]) (sc := defScope s__law_refused) (by decide +kernel)) rfl) (pa_cons (pe_lam1 (T := Tb) (P := Pf) TBf rfl hmem huni (lamS2_by (N := ["_law_prices_here", "_law_wrong", "_law_works", "_law_work"]) (sc := defScope s__law_refused) (by decide +kernel)) rfl rfl pe_int) (pa_cons (pe_lam1 (T := Tb) (P := Pf) TBf rfl hmem huni (lamS2_by (N := ["_law_prices_here", "_law_wrong", "_law_works", "_law_work"]) (sc := defScope s__law_refused) (by decide +kernel)) rfl rfl pe_int) pa_nil)))))
      (pss_cons (ps_expr (pe_bm PySem.F.plainAttrs_list PySem.F.slot_list_append PySem.F.type_list_append mt_append (pv 2) (pa_cons (pe_lam1 (T := Tb) (P := Pf) TBf rfl hmem huni (lamS2_by (N := ["_law_prices_here", "_law_wrong", "_law_works", "_law_work"]) (sc := defScope s__law_refused) (by decide +kernel)) rfl rfl pe_int) pa_nil)))
      (pss_one (ps_ret (pe_cmpR (op_eqD hr.units) (pe_lcI (own := [("_law_work", 3)]) (g := gName 3) rfl sc__law_refused.nd (pi_list (pv 2)) (blkOk_by (own := [("_law_work", 3)]) (N := ["_law_prices_here", "_law_wrong", "_law_works", "_law_work"]) (sc := defScope s__law_refused) (by decide +kernel)) (fun _ _ _ _ _ => pg_name (i := 3) sc__law_refused.nd rfl (Or.inl rfl)) (fun _ _ _ _ _ => pts_nil) (fun _ _ _ _ _ _ _ I0 hf => pe_give2B (k := 8) I0 hf (give_outcome T ER) (by rfl) (hr.mono (by decide)) (by decide) (pa_cons (pv 3) pa_nil))) (pe_op op_rep (pe_lst (pa_cons (pe_tup (pa_cons pe_str pa_nil)) pa_nil)) pe_int) (nomark _)))))))), ?_⟩
    refine ⟨hT, fun f0 H1 e1 t1 _ la0 => ⟨t1, fun f1 H2 e2 t2 _ la1 => ⟨t2, fun f2 H3 e3 t3 _ la2 => ⟨by show 3 ≤ sizeLine; decide, fun D nD => ?_⟩⟩⟩⟩
    have sD := same_upd (o := .lst [.ref f0, .ref f1, .ref f2]) nD
    have eD := ((e1.trans e2).trans e3).trans (ExtN.of sD)
    have tD := t3.ext sD
    have l0 := ((la0.ext e2).ext e3).same sD
    have l1 := (la1.ext e3).same sD
    have l2 := la2.same sD
    have hD := upd_same (H := H3) (a := D) (o := .lst [.ref f0, .ref f1, .ref f2])
    clear la0 la1 la2 t1 t2 t3 e1 e2 e3 sD
    generalize upd H3 D (.lst [.ref f0, .ref f1, .ref f2]) = H4 at eD tD l0 l1 l2 hD ⊢
    dsimp only
    refine g_ifop ?_
    show tLc _ _ _ _ _ [some (.ref z), some (.int v), some (.ref D), none] H4 _
    refine lc_works (i := 3) (j := 2) (fs := [f0, f1, f2]) (rs := [[.str "InvalidPrices", .int 0], [.str "InvalidPrices", .int 2], [.str "InvalidPrices", .int 0]]) rfl ?hj ?hi (SqL.of hD) rfl (by show 3 ≤ 1000; decide) (fun m f r hf hr' => ?_) (fun D2 H5 s5 dl => ?_)
    case hj => rfl
    case hi => show 3 < 4; decide
    · have bad1 : ¬ GoodP 0 v := fun g => by have := g.2; omega
      have bad2 : ¬ GoodP 2 v := fun g => by have := g.2; omega
      match m, hf, hr' with
      | 0, hf, hr' =>
        cases hf; cases hr'
        refine workI (List.mem_cons_of_mem _ (List.mem_singleton.mpr rfl)) l0 ⟨lamS2_by (N := ["_law_prices_here", "_law_wrong", "_law_works", "_law_work"]) (sc := defScope s__law_refused) (by decide +kernel), lamB0 (fun _ _ _ _ _ _ => rfl), fun A outer s H E f c' hr => (pe_makeR0 T.mk_Prices Gx_Prices_init (hr.mono (by decide)) (by rfl) T.mg_Prices (passes_call (takes_of rfl rfl rfl rfl) (fun _ _ _ _ h => h)))⟩ (fun H' E Q s go => ?_)
        exact fun x0 dx nx nd ne => prices_inX (cs := []) (by decide) nx nd ne (fun c => absurd c.1 (by decide)) (fun i d H'' hb sm hd => by obtain rfl := badP_uniq hb (.inl ⟨rfl, rfl⟩); exact go d H'' sm hd)
      | 1, hf, hr' =>
        cases hf; cases hr'
        refine workI (List.mem_cons_of_mem _ (List.mem_singleton.mpr rfl)) l1 ⟨lamS2_by (N := ["_law_prices_here", "_law_wrong", "_law_works", "_law_work"]) (sc := defScope s__law_refused) (by decide +kernel), lamB1 (a := "_law_a") (by decide +kernel) (fun _ _ _ _ _ _ _ _ => ⟨_, rfl, rfl⟩), fun A outer s H E f c' hr => (pe_makeR T.mk_Prices Gx_Prices_init (hr.mono (by decide)) (by rfl) T.mg_Prices (passes_call (takes_of rfl rfl rfl rfl) (fun _ _ _ _ h => h)) (pa_cons pe_int (pa_cons pe_int (pa_cons (pv 1) pa_nil))))⟩ (fun H' E Q s go => ?_)
        exact ⟨_, rfl, fun x0 dx nx nd ne => prices_inX (cs := [1, 2, v]) (by show 3 ≤ 1000; decide) nx nd ne (fun c => by have := c.2.2 v (by simp); omega) (fun i d H'' hb sm hd => by
          obtain rfl := badP_uniq hb (j := 2) (.inr ⟨v, rfl, bad2, fun j d hj hd => match j, hj, hd with | 0, _, hd => by cases hd; exact ⟨by decide, by decide, by decide⟩ | 1, _, hd => by cases hd; exact ⟨by decide, by decide, by decide⟩⟩)
          exact go d H'' sm hd)⟩
      | 2, hf, hr' =>
        cases hf; cases hr'
        refine workI (List.mem_cons_of_mem _ (List.mem_singleton.mpr rfl)) l2 ⟨lamS2_by (N := ["_law_prices_here", "_law_wrong", "_law_works", "_law_work"]) (sc := defScope s__law_refused) (by decide +kernel), lamB1 (a := "_law_b") (by decide +kernel) (fun _ _ _ _ _ _ _ _ => ⟨_, rfl, rfl⟩), fun A outer s H E f c' hr => (pe_makeR T.mk_Prices Gx_Prices_init (hr.mono (by decide)) (by rfl) T.mg_Prices (passes_call (takes_of rfl rfl rfl rfl) (fun _ _ _ _ h => h)) (pa_cons (pv 1) (pa_cons (pv 1) pa_nil)))⟩ (fun H' E Q s go => ?_)
        exact ⟨_, rfl, _, rfl, fun x0 dx nx nd ne => prices_inX (cs := [v, v]) (by show 2 ≤ 1000; decide) nx nd ne (fun c => by have := c.2.2 v (by simp); omega) (fun i d H'' hb sm hd => by
          obtain rfl := badP_uniq hb (j := 0) (.inr ⟨v, rfl, bad1, fun j d hj hd => absurd hj (Nat.not_lt_zero _)⟩)
          exact go d H'' sm hd)⟩
    · refine ⟨by show 2 ≤ sizeLine; decide, fun q1 m1 => ⟨by show 2 ≤ sizeLine; decide, fun q2 m2 => ⟨by show 2 ≤ sizeLine; decide, fun q3 m3 => ⟨by show 3 ≤ sizeLine; decide, fun q4 m4 => ?_⟩⟩⟩⟩
      have u1 := same_upd (o := .tup [.str "InvalidPrices", .int 0]) m1
      have u2 := same_upd (o := .tup [.str "InvalidPrices", .int 2]) m2
      have u3 := same_upd (o := .tup [.str "InvalidPrices", .int 0]) m3
      have u4 := same_upd (o := .lst [.ref q1, .ref q2, .ref q3]) m4
      have uu := ((u1.trans u2).trans u3).trans u4
      refine neD_DL (dl.same uu) (dl_three (u4 _ _ (u3 _ _ (u2 _ _ upd_same))) (u4 _ _ (u3 _ _ upd_same)) (u4 _ _ upd_same) upd_same) rfl rfl (by decide +kernel) (by decide +kernel) ⟨_, rfl, ifF (by decide +kernel) ?_⟩
      have e7 := eD.trans (ExtN.of (s5.trans uu))
      have t7 := tD.ext (s5.trans uu)
      generalize upd (upd (upd (upd H5 q1 _) q2 _) q3 _) q4 _ = H7 at e7 t7 ⊢
      clear eD tD s5 uu u1 u2 u3 u4 dl l0 l1 l2 hD m1 m2 m3 m4
      refine tnext ?_
      dsimp only
      refine seq_unf ?_
      refine ws_three t7 fun W H8 g0 g1 g2 ws => ?_
      refine g_seq ?_
      refine ws_append (ls := [_, _, _]) ws rfl (by show 3 ≤ 1000; decide) fun H9 g3 ws => ?_
      have hz9 : ∀ {b : Addr} {o : HO}, H b = some o → (∀ ps, o ≠ .tbl ps) → H9 b = some o := fun e n => ws.ext _ _ (e7 _ _ e n) n
      have pz9 : PAt a H9 z cs := by
        obtain ⟨dx, t, h1, h2⟩ := pz
        exact ⟨dx, t, hz9 h1 (fun _ z => nomatch z), hz9 h2 (fun _ z => nomatch z)⟩
      have e9 := e7.trans ws.ext
      dsimp only
      refine ret_op ?_
      dsimp only
      show tLc _ _ _ _ _ [some (.ref z), some (.int v), some (.ref W), none] H9 _
      obtain ⟨dx9, tz9, hzi, _⟩ := id pz9
      refine lc_works (i := 3) (j := 2) (fs := [g0, g1, g2, g3]) (rs := List.replicate 4 [.str "InvalidNumber"]) rfl ?hj2 ?hi2 (SqL.of ws.at_) rfl (by show 4 ≤ 1000; decide) (fun m f r hf hr' => ?_) (fun D3 H10 s10 dl => ?_)
      case hj2 => rfl
      case hi2 => show 3 < 4; decide
      · obtain rfl : r = [.str "InvalidNumber"] := (List.mem_replicate.mp (List.mem_of_getElem? hr')).2
        match m, hf with
        | 0, hf =>
          cases hf
          refine workP (List.mem_cons_self ..) (ws.get 0 rfl) ⟨lamS2_by (N := ["_law_prices_here", "_law_wrong", "_law_works", "_law_work"]) (sc := defScope s__law_refused) (by decide +kernel), lamB0 (fun _ _ _ _ _ _ => rfl), fun A outer s H E f c' hr => (pe_ixOwn T.me_Prices_getitem PO.fg Gx_Prices_getitem (b_Prices_getitem T) (hr.mono (by decide)) (passes_call (takes_of rfl rfl rfl rfl) (fun _ _ _ _ h => h)) (pv 0) (pe_op op_sub pe_int pe_int))⟩ (fun H' E Q s go => ?_)
          exact ⟨_, rfl, _, _, rfl, rfl, z, dx9, _, rfl, s _ _ hzi, z, cs, _, rfl, pz9.same s, by decide, go _ (Same.refl _)⟩
        | 1, hf =>
          cases hf
          refine workP (List.mem_cons_self ..) (ws.get 1 rfl) ⟨lamS2_by (N := ["_law_prices_here", "_law_wrong", "_law_works", "_law_work"]) (sc := defScope s__law_refused) (by decide +kernel), lamB1 (a := "_law_a") (by decide +kernel) (fun _ _ _ _ _ _ _ _ => ⟨_, rfl, rfl⟩), fun A outer s H E f c' hr => (pe_ixOwn T.me_Prices_getitem PO.fg Gx_Prices_getitem (b_Prices_getitem T) (hr.mono (by decide)) (passes_call (takes_of rfl rfl rfl rfl) (fun _ _ _ _ h => h)) (pv 0) (pe_op op_add (pe_op op_pow pe_int pe_int) pe_int))⟩ (fun H' E Q s go => ?_)
          exact ⟨_, rfl, _, _, rfl, rfl, ⟨by decide, by decide, by decide⟩, _, _, rfl, rfl, z, dx9, _, rfl, s _ _ hzi, z, cs, _, rfl, pz9.same s, by rw [pow18]; decide, go _ (Same.refl _)⟩
        | 2, hf =>
          cases hf
          refine workP (List.mem_cons_self ..) (ws.get 2 rfl) ⟨lamS2_by (N := ["_law_prices_here", "_law_wrong", "_law_works", "_law_work"]) (sc := defScope s__law_refused) (by decide +kernel), lamB1 (a := "_law_b") (by decide +kernel) (fun _ _ _ _ _ _ _ _ => ⟨_, rfl, rfl⟩), fun A outer s H E f c' hr => (Ru.pe_callO (i := 0) T.me_Prices_call PO.fc Gx_Prices_call (b_Prices_call T) (hr.mono (by decide)) (passes_call (takes_of rfl rfl rfl rfl) (fun _ _ _ _ h => h)) rfl (.inr (.inr rfl)) (pa_cons (pe_op op_sub pe_int pe_int) pa_nil))⟩ (fun H' E Q s go => ?_)
          exact ⟨z, rfl, _, _, rfl, rfl, dx9, _, s _ _ hzi, z, cs, _, rfl, pz9.same s, by decide, go _ (Same.refl _)⟩
        | 3, hf =>
          cases hf
          refine workP (List.mem_cons_self ..) (ws.get 3 rfl) ⟨lamS2_by (N := ["_law_prices_here", "_law_wrong", "_law_works", "_law_work"]) (sc := defScope s__law_refused) (by decide +kernel), lamB1 (a := "_law_c") (by decide +kernel) (fun _ _ _ _ _ _ _ _ => ⟨_, rfl, rfl⟩), fun A outer s H E f c' hr => (Ru.pe_callO (i := 0) T.me_Prices_call PO.fc Gx_Prices_call (b_Prices_call T) (hr.mono (by decide)) (passes_call (takes_of rfl rfl rfl rfl) (fun _ _ _ _ h => h)) rfl (.inr (.inr rfl)) (pa_cons (pe_op op_add (pe_op op_pow pe_int pe_int) pe_int) pa_nil))⟩ (fun H' E Q s go => ?_)
          exact ⟨z, rfl, _, _, rfl, rfl, ⟨by decide, by decide, by decide⟩, _, _, rfl, rfl, dx9, _, s _ _ hzi, z, cs, _, rfl, pz9.same s, by rw [pow18]; decide, go _ (Same.refl _)⟩
      · refine ⟨by show 1 ≤ sizeLine; decide, fun q m1 => ⟨by show 1 ≤ sizeLine; decide, fun q1 m2 => ⟨q1, 4, [.ref q], rfl, rfl, upd_same, by decide, by decide, by show 1 * 4 ≤ sizeLine; decide, fun q2 m3 => ?_⟩⟩⟩
        have v1 := same_upd (o := .tup [.str "InvalidNumber"]) m1
        have v2 := same_upd (o := .lst [.ref q]) m2
        have v3 := same_upd (o := .lst (List.replicate (4 : Int).toNat [V.ref q]).flatten) m3
        have dlr := dl_rep (n := 4) (v3 _ _ (v2 _ _ upd_same)) (show _ = some (HO.lst (List.replicate 4 (V.ref q))) from upd_same)
        have vv := (v1.trans v2).trans v3
        refine (?_ : rEqD _ _ _ _ _)
        refine eqD_DL (dl.same vv) dlr rfl rfl (by decide +kernel) (by decide +kernel) ?_
        rw [show PyData.eqv (pdL (List.replicate 4 [.str "InvalidNumber"])) (pdL (List.replicate 4 [.str "InvalidNumber"])) = true by decide +kernel]
        exact k _ (e9.trans (ExtN.of (s10.trans vv))) (ws.tab.ext (s10.trans vv))
end
end W6

namespace W6
open PySem PySem.Spec PyProof.Rows L2 Ru StX LamX
def lamT2 (Pt Pf : Addr) : List (Addr × Str) := [(Pt, (("law" : Str) ++ ".<locals>.") ++ "<lambda>"), (Pf, (("_law_refused" : Str) ++ ".<locals>.") ++ "<lambda>")]
theorem uniT {Pt Pf : Addr} (hne : Pt ≠ Pf) : ∀ p ∈ lamT2 Pt Pf, p.1 = Pt → p.2 = (("law" : Str) ++ ".<locals>.") ++ "<lambda>" := fun p hp e => by
  rcases List.mem_cons.mp hp with rfl | hp
  · rfl
  · rw [List.mem_singleton.mp hp] at e
    exact absurd e.symm hne
theorem uniF {Pt Pf : Addr} (hne : Pt ≠ Pf) : ∀ p ∈ lamT2 Pt Pf, p.1 = Pf → p.2 = (("_law_refused" : Str) ++ ".<locals>.") ++ "<lambda>" := fun p hp e => by
  rcases List.mem_cons.mp hp with rfl | hp
  · exact absurd e hne
  · rw [List.mem_singleton.mp hp]
def spLaw2 (K : PySem.W.Frag) (Pt Pf : Addr) : Sp := fun vs H Q _ => ∃ (c : Addr) (ns : List Int), vs = [.ref c] ∧ SqL K H c (ns.map V.int) ∧ ns.length ≤ 63 ∧ Tabs (lamT2 Pt Pf) H ∧ ∀ H', Q (.bl true) H'

/-- what the law keeps in a turn -/
structure Wp (K : PySem.W.Frag) (a : Ad) (x y Pt Pf C z : Addr) (cs : List Int) (H : Hp) : Prop where
  ls : LS K H x y
  tb : Tabs (lamT2 Pt Pf) H
  nc : C ≠ x
  hC : H C = some (.lst (cs.map V.int))
  pz : PAt a H z cs
section
variable {K : PySem.W.Frag} {a : Ad} {x y Pt Pf C z : Addr} {cs : List Int} {H H' : Hp}
theorem PAt.kp (h : PAt a H z cs) (ls : LS K H x y) (k : Kp x H H') : PAt a H' z cs := let ⟨dx, t, h1, h2⟩ := h; ⟨dx, t, k.get ls h1 (fun _ z => nomatch z), k.get ls h2 (fun _ z => nomatch z)⟩
theorem Wp.same (w : Wp K a x y Pt Pf C z cs H) (s : Same H H') : Wp K a x y Pt Pf C z cs H' := ⟨w.ls.same s, w.tb.ext s, w.nc, s _ _ w.hC, w.pz.same s⟩
theorem Wp.ext (w : Wp K a x y Pt Pf C z cs H) (e : ExtN H H') (t : Tabs (lamT2 Pt Pf) H') : Wp K a x y Pt Pf C z cs H' := ⟨w.ls.ext e, t, w.nc, e _ _ w.hC (fun _ z => nomatch z), w.pz.ext e⟩
theorem Wp.kp (w : Wp K a x y Pt Pf C z cs H) (k : Kp x H H') (ls' : LS K H' x y) : Wp K a x y Pt Pf C z cs H' := ⟨ls', tabs_kp w.ls k w.tb, w.nc, k _ _ w.nc w.hC, w.pz.kp w.ls k⟩
end
/-- the ticks, of the first so many, in which they differ -/
def difs (cs ds : List Int) (n : Nat) : List Int := ((List.range n).filter fun t => !decide (Th.chAt cs t = Th.chAt ds t)).map fun (t : Nat) => (t : Int)
theorem difs_succ (cs ds : List Int) (n : Nat) : difs cs ds (n + 1) = if Th.chAt cs n = Th.chAt ds n then difs cs ds n else difs cs ds n ++ [(n : Int)] := by
  unfold difs
  rw [List.range_succ, List.filter_append, List.map_append]
  by_cases h : Th.chAt cs n = Th.chAt ds n
  · rw [if_pos h, List.filter_cons_of_neg (by rw [decide_eq_true h]; decide), List.filter_nil, List.map_nil, List.append_nil]
  · rw [if_neg h, List.filter_cons_of_pos (by rw [decide_eq_false h]; rfl), List.filter_nil]; rfl
theorem difs_nil (cs ds : List Int) (n : Nat) : difs cs ds n = [] ↔ ∀ t, t < n → Th.chAt cs t = Th.chAt ds t := by
  unfold difs
  rw [List.map_eq_nil_iff, List.filter_eq_nil_iff]
  constructor
  · intro h t ht
    have := h t (List.mem_range.mpr ht)
    simpa using this
  · intro h t ht
    rw [decide_eq_true (h t (List.mem_range.mp ht))]
    decide
theorem difs_len (cs ds : List Int) (n : Nat) : (difs cs ds n).length ≤ n := by
  unfold difs
  rw [List.length_map]
  exact Nat.le_trans (List.length_filter_le _ _) (by rw [List.length_range]; exact Nat.le_refl _)
theorem rep_two {cs : List Int} : (List.replicate (2 : Int).toNat (cs.map V.int)).flatten = (cs ++ cs).map V.int := by
  show (List.replicate 2 (cs.map V.int)).flatten = _
  rw [List.map_append]
  simp [List.replicate]
theorem lcm12 {m k : Nat} (a : m ≤ 4) (b : k ≤ 4) : Nat.lcm m k ≤ 12 := by
  have h : ∀ m k : Fin 5, Nat.lcm m.val k.val ≤ 12 := by decide
  exact h ⟨m, by omega⟩ ⟨k, by omega⟩
theorem CP.part {cs : List Int} (c : CP cs) (l4 : cs.length ≤ 4) (r : Nat) (r4 : r < 4) : CP ((cs ++ cs).take (1 + r)) ∧ ((cs ++ cs).take (1 + r)).length ≤ 4 := by
  have e : ((cs ++ cs).take (1 + r)).length = min (1 + r) (cs.length + cs.length) := by rw [List.length_take, List.length_append]
  have := c.1
  refine ⟨⟨by omega, by omega, fun x hx => ?_⟩, by omega⟩
  rcases List.mem_append.mp (List.mem_of_mem_take hx) with h | h <;> exact c.2.2 x h
def okP1 (c : Int) : Bool := decide (0 ≤ c) && decide (c ≤ 1000000)
/-- the first so many that can't be -/
def badsP (ms : List Int) (n : Nat) : List Int := ((List.range n).filter fun k => !okP1 (ms.getD k 0)).map fun (t : Nat) => (t : Int)
theorem badsP_succ (ns : List Int) (n : Nat) : badsP ns (n + 1) = if okP1 (ns.getD n 0) = true then badsP ns n else badsP ns n ++ [(n : Int)] := by
  unfold badsP
  rw [List.range_succ, List.filter_append, List.map_append]
  cases k : okP1 (ns.getD n 0) with
  | true => rw [if_pos rfl, List.filter_cons_of_neg (by rw [k]; decide), List.filter_nil, List.map_nil, List.append_nil]
  | false => rw [if_neg (by decide), List.filter_cons_of_pos (by rw [k]; rfl), List.filter_nil]; rfl
theorem badsP_len (ns : List Int) (n : Nat) : (badsP ns n).length ≤ n := by
  unfold badsP
  rw [List.length_map]
  exact Nat.le_trans (List.length_filter_le _ _) (by rw [List.length_range]; exact Nat.le_refl _)
theorem okP1_iff {c : Int} : okP1 c = true ↔ 0 ≤ c ∧ c ≤ 1000000 := by unfold okP1; rw [Bool.and_eq_true, decide_eq_true_eq, decide_eq_true_eq]
theorem badsP_nil {ns : List Int} (h1 : 1 ≤ ns.length) (h24 : ns.length ≤ 24) : badsP ns ns.length = [] ↔ CP ns := by
  unfold badsP
  rw [List.map_eq_nil_iff, List.filter_eq_nil_iff]
  constructor
  · refine fun h => ⟨h1, h24, fun c hc => ?_⟩
    obtain ⟨i, hi⟩ := List.mem_iff_getElem?.mp hc
    have il := (List.getElem?_eq_some_iff.mp hi).1
    have e : ns.getD i 0 = c := by rw [List.getD_eq_getElem?_getD, hi]; rfl
    have := h i (List.mem_range.mpr il)
    rw [e] at this
    exact okP1_iff.mp (by simpa using this)
  · intro c i hi
    have il := List.mem_range.mp hi
    have : ns.getD i 0 ∈ ns := by rw [List.getD_eq_getElem?_getD, List.getElem?_eq_getElem il]; exact List.getElem_mem il
    rw [okP1_iff.mpr (c.2.2 _ this)]
    decide
theorem badsP_head {ns : List Int} (h24 : ns.length ≤ 24) {i : Int} {r : List Int} (h : badsP ns ns.length = i :: r) : ∃ j : Nat, i = j ∧ BadP ns j := by
  unfold badsP at h
  cases e : (List.range ns.length).filter fun k => !okP1 (ns.getD k 0) with
  | nil => rw [e] at h; cases h
  | cons j l =>
    rw [e] at h
    injection h with h _
    have pw : ((List.range ns.length).filter fun k => !okP1 (ns.getD k 0)).Pairwise (· < ·) := List.pairwise_lt_range.filter _
    have mem : ∀ {m : Nat}, m ∈ j :: l ↔ m < ns.length ∧ okP1 (ns.getD m 0) = false := fun {m} => by
      rw [← e, List.mem_filter, List.mem_range]
      simp
    obtain ⟨jl, jb⟩ := mem.mp (List.mem_cons_self ..)
    have ej : ns[j]? = some (ns.getD j 0) := by rw [List.getD_eq_getElem?_getD, List.getElem?_eq_getElem jl]; rfl
    refine ⟨j, h.symm, .inr ⟨_, ej, fun g => ?_, fun m d hm hd => ?_⟩⟩
    · have := okP1_iff.mpr g.2
      rw [this] at jb; cases jb
    · have ml := (List.getElem?_eq_some_iff.mp hd).1
      have em : ns.getD m 0 = d := by rw [List.getD_eq_getElem?_getD, hd]; rfl
      have nm : m ∉ j :: l := fun q => by
        rw [e] at pw
        rcases List.mem_cons.mp q with rfl | q
        · omega
        · have := (List.pairwise_cons.mp pw).1 m q
          omega
      have : okP1 d = true := by
        cases k : okP1 d with
        | true => rfl
        | false => exact absurd (mem.mpr ⟨ml, by rw [em]; exact k⟩) nm
      exact ⟨by omega, okP1_iff.mp this⟩
/-- what the multiplying gave: prices, or the error told -/
def FoundP (a : Ad) (ms : List Int) (v : V) (H : Hp) : Prop := (CP ms ∧ ∃ z, v = .ref z ∧ PAt a H z ms) ∨ ∃ (i : Nat) (p : Addr), BadP ms i ∧ v = .ref p ∧ H p = some (.tup [.str "InvalidPrices", .int i])
theorem FoundP.same {a : Ad} {ms : List Int} {v : V} {H H' : Hp} (h : FoundP a ms v H) (s : Same H H') : FoundP a ms v H' := by
  rcases h with ⟨c, z, e, p⟩ | ⟨i, p, b, e, hp⟩
  · exact .inl ⟨c, z, e, p.same s⟩
  · exact .inr ⟨i, p, b, e, s _ _ hp⟩
theorem and_step {c1 c2 : TT} {σ : L2.St} {H : Hp} {Q : Bool → Hp → Prop} (h : c1 σ H fun b H1 => if b = true then c2 σ H1 Q else Q false H1) : tAnd c1 c2 σ H Q := h
section
variable {P : Program} {w : World} {K : PySem.W.Frag} {mg : Str → Option Value} {base : Heap} {a : Ad} {er : Er2}
set_option maxHeartbeats 0 in
theorem ok_law {cl cf Pt Pf : Addr} (T : Txt K mg a) (ER : E2T P K mg er) (PO : POp K a) (hne : Pt ≠ Pf) (hc : a.d_law.code = .ref cl) (TB : TabB base mg cl Pt) (hcf : a.d__law_refused.code = .ref cf) (TBf : TabB base mg cf Pf) : FnOk P w K mg base CX0 16 a.f_law a.d_law ["_law_script"] (spLaw2 K Pt Pf) := by
  have G__law_start : FnOk P w K mg base CX0 1 a.f__law_start a.d__law_start ["_law_script"] (spStart K) := ok__law_start T
  have G__law_drawn : FnOk P w K mg base CX0 1 a.f__law_drawn a.d__law_drawn ["_law_state", "_law_count"] (spDrawn K) := ok__law_drawn T
  have G__law_same := same2 (P := P) (w := w) (base := base) T
  have G__law_prices := ok__law_prices (P := P) (w := w) (base := base) T ER
  have G__law_long := ok__law_long (P := P) (w := w) (base := base) T ER PO
  have G__law_refused := ok__law_refused (P := P) (w := w) (base := base) T ER PO hcf TBf (List.mem_cons_of_mem _ (List.mem_singleton.mpr rfl)) (uniF hne)
  have G_Prices_cents : FnOk P w K mg base CX0 1 a.f_Prices_cents a.d_Prices_cents ["self"] (getSp a.c_Prices "_cents") := ok_Prices_cents T
  have G_Prices_len : FnOk P w K mg base CX0 1 a.f_Prices_len a.d_Prices_len ["self"] (spPlen a) := ok_Prices_len T
  have G_Prices_call : FnOk P w K mg base CX0 2 a.f_Prices_call a.d_Prices_call ["self", "count"] (spPcall a) := ok_Prices_call T
  have G_Prices_getitem : FnOk P w K mg base CX0 2 a.f_Prices_getitem a.d_Prices_getitem ["self", "at"] (spPget a) := ok_Prices_getitem T
  have Geq := ok_Prices_eq (P := P) (w := w) (base := base) T PO
  have GeqT := okT_Prices_eq (P := P) (w := w) (base := base) T PO
  have Gmul := okx_Prices_mul (P := P) (w := w) (base := base) T ER
  refine okC T.F_law hc sc_law (fun vs H Q E h => ?_) (fun A outer s H vs Q E hr h => ?_)
  · obtain ⟨c, ns, rfl, _⟩ := h
    rfl
  · obtain ⟨c, ns, rfl, hS, hl, hT, k⟩ := h
    refine ⟨_, (pss_cons (ps_set (i := 1) sc_law.nd rfl (Or.inr rfl) (pe_call G__law_start (hr.mono (by decide)) (by rfl) T.mg__law_start T.F__law_start.kp (b__law_start T) .nil pass0 (pa_cons (pv 0) pa_nil)))
      (pss_cons (ps_if (pt_cmpR (op_neD hr.units) (pe_tup (pa_cons (ClX.pe_cval (pe_glob (v := .ref a.c_Prices) (by rfl) T.mg_Prices rfl) rfl) (pa_cons (ClX.pe_cval (pe_glob (v := .ref a.c_Prices) (by rfl) T.mg_Prices rfl) rfl) pa_nil))) (pe_tup (pa_cons pe_int (pa_cons (pe_op op_pow pe_int pe_int) pa_nil))) (nomark _)) (pss_one (ps_ret pe_bl)) pss_nil)
      (pss_cons (ps_for PassesOwn.never rfl (pi_range1 (by rfl) T.z_range (pa_cons pe_int pa_nil)) (pg_name (i := 2) sc_law.nd rfl (Or.inl rfl))
        (pss_cons (ps_set (i := 3) sc_law.nd rfl (Or.inr rfl) (pe_lc (own := [("_law_k", 4)]) (g := gName 4) rfl sc_law.nd (pi_range1 (by rfl) T.z_range (pa_cons (pe_op op_add pe_int (pe_call G__law_drawn (hr.mono (by decide)) (by rfl) T.mg__law_drawn T.F__law_drawn.kp (b__law_drawn T) .nil pass0 (pa_cons (pv 1) (pa_cons pe_int pa_nil)))) pa_nil)) (blkOk_by (own := [("_law_k", 4)]) (N := ["_law_script", "_law_state", "_law_turn", "_law_cents", "_law_k", "_law_prices_here", "_law_count", "_law_size", "_law_whole", "_law_rest", "_law_other", "_law_same_here", "_law_twin", "_law_times", "_law_bad", "_law_found", "_law_one"]) (sc := (defScope s_law)) (by decide +kernel)) (fun _ _ _ _ _ => pg_name (i := 4) sc_law.nd rfl (Or.inl rfl)) (fun _ _ _ _ _ => pts_nil) (fun _ _ _ _ _ => (pe_call G__law_drawn (hr.mono (by decide)) (by rfl) T.mg__law_drawn T.F__law_drawn.kp (b__law_drawn T) .nil pass0 (pa_cons (pv 1) (pa_cons (pe_ix (show IxR _ (rIxL K) from ix_list) (pe_lst (pa_cons pe_int (pa_cons (pe_op op_add (pe_op op_pow pe_int pe_int) pe_int) pa_nil))) (pe_call G__law_drawn (hr.mono (by decide)) (by rfl) T.mg__law_drawn T.F__law_drawn.kp (b__law_drawn T) .nil pass0 (pa_cons (pv 1) (pa_cons pe_int pa_nil))) (fun _ _ => rfl)) pa_nil))))))
      (pss_cons (ps_if (pt_cmpR op_eq (pe_call G__law_drawn (hr.mono (by decide)) (by rfl) T.mg__law_drawn T.F__law_drawn.kp (b__law_drawn T) .nil pass0 (pa_cons (pv 1) (pa_cons pe_int pa_nil))) pe_int (nomark _)) (pss_one (ps_asg (pe_op op_pow pe_int pe_int) (pg_sub (pv 3) pe_int set_list))) pss_nil)
      (pss_cons (ps_asg (pe_tup (pa_cons (pe_call G__law_prices (hr.mono (by decide)) (by rfl) T.mg__law_prices T.F__law_prices.kp (b__law_prices T) .nil pass0 (pa_cons (pv 3) pa_nil)) (pa_cons (pe_call G__law_drawn (hr.mono (by decide)) (by rfl) T.mg__law_drawn T.F__law_drawn.kp (b__law_drawn T) .nil pass0 (pa_cons (pv 1) (pa_cons (pe_ix (show IxR _ (rIxL K) from ix_list) (pe_lst (pa_cons pe_int (pa_cons (pe_op op_pow pe_int pe_int) pa_nil))) (pe_call G__law_drawn (hr.mono (by decide)) (by rfl) T.mg__law_drawn T.F__law_drawn.kp (b__law_drawn T) .nil pass0 (pa_cons (pv 1) (pa_cons pe_int pa_nil))) (fun _ _ => rfl)) pa_nil))) pa_nil))) (pg_tup rfl (pgs_cons (pg_name (i := 5) sc_law.nd rfl (Or.inr rfl)) (pgs_cons (pg_name (i := 6) sc_law.nd rfl (Or.inl rfl)) pgs_nil))))
      (pss_cons (ps_if (PW.pt (pw_or (pt_not (pt_val (pe_call G__law_same (hr.mono (by decide)) (by rfl) T.mg__law_same T.F__law_same.kp (b__law_same T) .nil pass0 (pa_cons (pe_prop (pv 5) T.cl_Prices T.pr_Prices_cents G_Prices_cents (hr.mono (by decide)) (b_Prices_cents T) .nil pass0 rfl) (pa_cons (pe_callTy call_tuple_of (by rfl) T.z_tuple (by decide +kernel) (pa_cons (pv 3) pa_nil)) pa_nil))))) (pw_or1 (pt_cmpR op_ne (pe_callB (call_lenOwn T.me_Prices_len G_Prices_len (b_Prices_len T) (hr.mono (by decide)) pass0) (by rfl) T.z_len PySem.boot_len (pa_cons (pv 5) pa_nil)) (pe_callB (show CallR _ (.builtin "len") (rLenS K) from call_len_seq) (by rfl) T.z_len PySem.boot_len (pa_cons (pv 3) pa_nil)) (nomark _))))) (pss_one (ps_ret pe_bl)) pss_nil)
      (pss_cons (ps_if (pt_cmpR op_ne (pe_ixOwn T.me_Prices_getitem PO.fg G_Prices_getitem (b_Prices_getitem T) (hr.mono (by decide)) pass0 (pv 5) (pv 6)) (pe_ix ix_list (pv 3) (pe_op op_mod (pv 6) (pe_callB (show CallR _ (.builtin "len") (rLenS K) from call_len_seq) (by rfl) T.z_len PySem.boot_len (pa_cons (pv 3) pa_nil))) (fun _ _ => rfl)) (nomark _)) (pss_one (ps_ret pe_bl)) pss_nil)
      (pss_cons (ps_set (i := 7) sc_law.nd rfl (Or.inl rfl) (pe_callB (show CallR _ (.builtin "len") (rLenS K) from call_len_seq) (by rfl) T.z_len PySem.boot_len (pa_cons (pv 3) pa_nil)))
      (pss_cons (ps_par (i := 8) (j := 9) (by rfl) sc_law.nd rfl rfl (by decide) rfl rfl (pa_cons (pe_op op_mul (pe_op op_fdiv (pv 6) (pv 7)) (pe_callB (cr_sum rfl) (by rfl) T.z_sum (by decide +kernel) (pa_cons (pv 3) pa_nil))) (pa_cons (pe_callB (cr_sum rfl) (by rfl) T.z_sum (by decide +kernel) (pa_cons (pe_slice sl_list (pv 3) po_none (po_some (pe_op op_mod (pv 6) (pv 7)))) pa_nil)) pa_nil)) (by rfl))
      (pss_cons (ps_if (pt_cmpR op_ne (Ru.pe_callO (i := 5) T.me_Prices_call PO.fc G_Prices_call (b_Prices_call T) (hr.mono (by decide)) pass0 rfl (.inr (.inl rfl)) (pa_cons (pv 6) pa_nil)) (pe_op op_add (pv 8) (pv 9)) (nomark _)) (pss_one (ps_ret pe_bl)) pss_nil)
      (pss_cons (ps_set (i := 10) sc_law.nd rfl (Or.inr rfl) (pe_slice sl_list (pe_op op_rep (pv 3) pe_int) po_none (po_some (pe_op op_add pe_int (pe_call G__law_drawn (hr.mono (by decide)) (by rfl) T.mg__law_drawn T.F__law_drawn.kp (b__law_drawn T) .nil pass0 (pa_cons (pv 1) (pa_cons pe_int pa_nil)))))))
      (pss_cons (ps_set (i := 11) sc_law.nd rfl (Or.inl rfl) (pe_cmpR (op_eqD hr.units) (pe_lc (own := [("_law_k", 4)]) (g := gName 4) rfl sc_law.nd (pi_range1 (by rfl) T.z_range (pa_cons pe_int pa_nil)) (blkOk_by (own := [("_law_k", 4)]) (N := ["_law_script", "_law_state", "_law_turn", "_law_cents", "_law_k", "_law_prices_here", "_law_count", "_law_size", "_law_whole", "_law_rest", "_law_other", "_law_same_here", "_law_twin", "_law_times", "_law_bad", "_law_found", "_law_one"]) (sc := (defScope s_law)) (by decide +kernel)) (fun _ _ _ _ _ => pg_name (i := 4) sc_law.nd rfl (Or.inl rfl)) (fun _ _ _ _ _ => pts_one (pt_cmpR op_ne (pe_ix (show IxR _ (rIxL K) from ix_list) (pv 3) (pe_op op_mod (pv 4) (pe_callB (show CallR _ (.builtin "len") (rLenS K) from call_len_seq) (by rfl) T.z_len PySem.boot_len (pa_cons (pv 3) pa_nil))) (fun _ _ => rfl)) (pe_ix (show IxR _ (rIxL K) from ix_list) (pv 10) (pe_op op_mod (pv 4) (pe_callB (show CallR _ (.builtin "len") (rLenS K) from call_len_seq) (by rfl) T.z_len PySem.boot_len (pa_cons (pv 10) pa_nil))) (fun _ _ => rfl)) (nomark _))) (fun _ _ _ _ _ => (pv 4))) (pe_lst pa_nil) (nomark _)))
      (pss_cons (ps_set (i := 12) sc_law.nd rfl (Or.inl rfl) (pe_call G__law_prices (hr.mono (by decide)) (by rfl) T.mg__law_prices T.F__law_prices.kp (b__law_prices T) .nil pass0 (pa_cons (pv 10) pa_nil)))
      (pss_cons (ps_if (PW.pt (pw_or (pt_cmpR op_ne (pe_cmpR (op_ownEq PO.eq Geq (b_Prices_eq T) (hr.mono (by decide)) pass0) (pv 5) (pv 12) (nomark _)) (pv 11) (nomark _)) (pw_or (pt_cmpR op_ne (pe_cmpR (op_ownNe PO.ne Geq (b_Prices_eq T) (hr.mono (by decide)) pass0) (pv 5) (pv 12) (nomark _)) (pe_not (pv 11)) (nomark _)) (pw_or1 (pt_cmpR (op_ownEqT PO.eq PO.n3 GeqT (b_Prices_eq T) (hr.mono (by decide)) pass0) (pv 5) (pe_callTy call_tuple_of (by rfl) T.z_tuple (by decide +kernel) (pa_cons (pv 3) pa_nil)) (nomark _)))))) (pss_one (ps_ret pe_bl)) pss_nil)
      (pss_cons (ps_set (i := 13) sc_law.nd rfl (Or.inr rfl) (pe_op op_sub (pe_call G__law_drawn (hr.mono (by decide)) (by rfl) T.mg__law_drawn T.F__law_drawn.kp (b__law_drawn T) .nil pass0 (pa_cons (pv 1) (pa_cons pe_int pa_nil))) (pe_callTy call_int1 (by rfl) T.z_int (by decide +kernel) (pa_cons (pe_cmpR op_eq (pe_call G__law_drawn (hr.mono (by decide)) (by rfl) T.mg__law_drawn T.F__law_drawn.kp (b__law_drawn T) .nil pass0 (pa_cons (pv 1) (pa_cons pe_int pa_nil))) pe_int (nomark _)) pa_nil))))
      (pss_cons (ps_setLc (i := 14) (own := [("_law_k", 4)]) (g := gName 4) rfl sc_law.nd rfl rfl (sw_true rfl rfl rfl (by decide +kernel)) (pi_range1 (by rfl) T.z_range (pa_cons (pe_callB (show CallR _ (.builtin "len") (rLenS K) from call_len_seq) (by rfl) T.z_len PySem.boot_len (pa_cons (pv 3) pa_nil)) pa_nil)) (blkOk_by (own := [("_law_k", 4)]) (N := ["_law_script", "_law_state", "_law_turn", "_law_cents", "_law_k", "_law_prices_here", "_law_count", "_law_size", "_law_whole", "_law_rest", "_law_other", "_law_same_here", "_law_twin", "_law_times", "_law_bad", "_law_found", "_law_one"]) (sc := (defScope s_law)) (by decide +kernel)) (fun _ _ _ _ _ => pg_name (i := 4) sc_law.nd rfl (Or.inl rfl)) (fun _ _ _ _ _ => pts_one (pt_not (pt_chain op_le op_le pe_int (pe_op op_mul (pe_ix (show IxR _ (rIxL K) from ix_list) (pv 3) (pv 4) (fun _ _ => rfl)) (pv 13)) (pe_op op_pow pe_int pe_int)))) (fun _ _ _ _ _ => (pv 4)))
      (pss_cons (ps_set (i := 15) sc_law.nd rfl (Or.inl rfl) (pe_give2 (k := 8) (give_outcome T ER) (by rfl) (hr.mono (by decide)) (by decide) (pa_cons (pe_lam0 (T := lamT2 Pt Pf) (P := Pt) TB rfl (List.mem_cons_self ..) (uniT hne) (lamS2_by (N := ["_law_script", "_law_state", "_law_turn", "_law_cents", "_law_k", "_law_prices_here", "_law_count", "_law_size", "_law_whole", "_law_rest", "_law_other", "_law_same_here", "_law_twin", "_law_times", "_law_bad", "_law_found", "_law_one"]) (sc := defScope s_law) (by decide +kernel)) rfl) pa_nil)))
      (pss_cons (ps_if (PW.pt (pw_and (pt_cmpR (op_neD hr.units) (pv 14) (pe_lst pa_nil) (nomark _)) (pw_and1 (pt_cmpR (op_neD hr.units) (pv 15) (pe_tup (pa_cons pe_str (pa_cons (pe_ix ix_list (pv 14) pe_int (fun _ _ => rfl)) pa_nil))) (nomark _))))) (pss_one (ps_ret pe_bl)) pss_nil)
      (pss_cons (ps_if (PW.pt (pw_and (pt_cmpR (op_eqD hr.units) (pv 14) (pe_lst pa_nil) (nomark _)) (pw_and1 (pt_cmpR (op_neD hr.units) (pe_prop (pv 15) T.cl_Prices T.pr_Prices_cents G_Prices_cents (hr.mono (by decide)) (b_Prices_cents T) .nil pass0 rfl) (pe_callTy call_tuple_of (by rfl) T.z_tuple (by decide +kernel) (pa_cons (pe_lc (own := [("_law_one", 16)]) (g := gName 16) rfl sc_law.nd (pi_list (pv 3)) (blkOk_by (own := [("_law_one", 16)]) (N := ["_law_script", "_law_state", "_law_turn", "_law_cents", "_law_k", "_law_prices_here", "_law_count", "_law_size", "_law_whole", "_law_rest", "_law_other", "_law_same_here", "_law_twin", "_law_times", "_law_bad", "_law_found", "_law_one"]) (sc := (defScope s_law)) (by decide +kernel)) (fun _ _ _ _ _ => pg_name (i := 16) sc_law.nd rfl (Or.inl rfl)) (fun _ _ _ _ _ => pts_nil) (fun _ _ _ _ _ => (pe_op op_mul (pv 16) (pv 13)))) pa_nil)) (nomark _))))) (pss_one (ps_ret pe_bl)) pss_nil)
      (pss_one (ps_if (pt_not (pt_val (pe_call G__law_refused (hr.mono (by decide)) (by rfl) T.mg__law_refused T.F__law_refused.kp (b__law_refused T) .nil pass0 (pa_cons (pv 5) (pa_cons (pe_ix (show IxR _ (rIxL K) from ix_list) (pe_lst (pa_cons (pe_op op_sub pe_int pe_int) (pa_cons (pe_op op_add (pe_op op_pow pe_int pe_int) pe_int) pa_nil))) (pe_call G__law_drawn (hr.mono (by decide)) (by rfl) T.mg__law_drawn T.F__law_drawn.kp (b__law_drawn T) .nil pass0 (pa_cons (pv 1) (pa_cons pe_int pa_nil))) (fun _ _ => rfl)) pa_nil))))) (pss_one (ps_ret pe_bl)) pss_nil))))))))))))))))))))
      (pss_one (ps_ret (pe_call G__law_long (hr.mono (by decide)) (by rfl) T.mg__law_long T.F__law_long.kp (b__law_long T) .nil pass0 (pa_cons (pv 1) pa_nil))))))), ?_⟩
    refine ⟨_, rfl, c, ns, rfl, hS, hl, fun x H1 ls1 s1 nx => ?_⟩
    dsimp only
    refine g_seq ?_
    show tIfS _ _ _ _ (some (.ref c) :: some (.ref x) :: List.replicate 15 none) H1
    refine if_op ?_
    obtain ⟨t24, c24⟩ := PO.v24
    obtain ⟨tM, cM⟩ := PO.vM
    refine ⟨a.c_Prices, _, _, _, rfl, PO.cr, c24, a.c_Prices, _, _, _, rfl, PO.cr, cM, by show 2 ≤ sizeLine; decide, fun q hq => ⟨_, _, rfl, rfl, ⟨by decide, by decide, by decide⟩, by show 2 ≤ sizeLine; decide, fun u hu => ?_⟩⟩
    have sq := same_upd (o := .tup [.int 24, .int 1000000]) hq
    have su := same_upd (o := .tup [.int 24, .int (10 ^ (6 : Int).toNat)]) hu
    refine neT_ints (ns := [24, 1000000]) (ms := [24, 10 ^ (6 : Int).toNat]) (su _ _ upd_same) upd_same ⟨_, rfl, ifF (by rw [pow6]; decide) ?_⟩
    have s2 := s1.trans (sq.trans su)
    have ls2 := ls1.same (sq.trans su)
    have tb2 : Tabs (lamT2 Pt Pf) _ := hT.ext s2
    generalize upd (upd H1 q _) u _ = H2 at s2 ls2 tb2 ⊢
    clear s1 ls1 sq su hq hu
    refine tnext ?_
    dsimp only
    refine ⟨6, rfl, by decide, by decide, for_range (lo := 0) (n := 6) (fun i σ H' => ∃ vs : List (Option V), σ = some (.ref c) :: some (.ref x) :: vs ∧ vs.length = 15 ∧ LS K H' x c ∧ Tabs (lamT2 Pt Pf) H') ⟨List.replicate 15 none, rfl, rfl, ls2, tb2⟩ ?_ ?_⟩
    · rintro i σ H3 hi ⟨vs, rfl, lvs, ls3, tb3⟩
      match vs, lvs with
      | [v2, v3, v4, v5, v6, v7, v8, v9, v10, v11, v12, v13, v14, v15, v16], _ =>
      clear lvs
      dsimp only
      refine ⟨_, rfl, x, c, 4, rfl, ls3, by decide, by decide, fun m H4 m0 m1 ls4 k4 => ⟨_, _, rfl, rfl, 1 + m, rfl, by omega, by omega, fun D nD => ?_⟩⟩
      have tb4 := tabs_kp ls3 k4 tb3
      have ny := ls4.fresh nD
      have nDx := ls4.off nD
      refine lc_range (lo := 0) (n := (1 + m).toNat) (fun i H' => ∃ cs : List Int, cs.length = i ∧ (∀ e ∈ cs, 0 ≤ e ∧ e ≤ 1000000) ∧ H' D = some (.lst (cs.map V.int)) ∧ LS K H' x c ∧ Tabs (lamT2 Pt Pf) H') ⟨[], rfl, ⟨(fun r hr => by cases hr), upd_same, ls4.same (same_upd nD), tb4.ext (same_upd nD)⟩⟩ ?_ ?_
      · rintro j H' hj ⟨cs, cl, cb, hD, ls', tb'⟩
        have hj : j < 4 := by omega
        refine ⟨rfl, _, rfl, _, _, rfl, rfl, ⟨by decide, by decide, by decide⟩, _, _, rfl, rfl, by show 2 ≤ sizeLine; decide, fun Lp nLp => ?_⟩
        have sp := same_upd (o := .lst [.int 4, .int (10 ^ (6 : Int).toNat + 1)]) nLp
        have oLp := ls'.off nLp
        refine ⟨_, rfl, x, c, 2, rfl, ls'.same sp, by decide, by decide, fun r H5 r0 r1 ls5 k5 => ?_⟩
        obtain ⟨e, he, hat⟩ := pickI (es := [4, 10 ^ (6 : Int).toNat + 1]) r0 r1
        have he : e = 4 ∨ e = 1000001 := by rw [pow6] at he; simpa using he
        refine ⟨Lp, _, _, _, rfl, rfl, SqL.of (k5 _ _ oLp upd_same), hat, x, c, e, rfl, ls5, by omega, by omega, fun n0 H6 q0 q1 ls6 k6 => ?_⟩
        have hD6 := k6 _ _ nDx (k5 _ _ nDx (sp _ _ hD))
        have tb6 := tabs_kp ls5 k6 (tabs_kp (ls'.same sp) k5 (tb'.ext sp))
        refine ⟨_, hD6, by rw [List.length_map]; exact small1000 (by omega), cs ++ [n0], by rw [List.length_append, cl]; rfl, fun z hz => ?_, by rw [upd_same, List.map_append]; rfl, ls6.updD nDx ny, tabs_extL tb6 (extL_upd hD6)⟩
        rcases List.mem_append.mp hz with hz | hz
        · exact cb z hz
        · rw [List.mem_singleton.mp hz]; omega
      rintro H7 ⟨cs, cl, cb, hD, ls7, tb7⟩
      have c1 : 1 ≤ cs.length := by omega
      have c4 : cs.length ≤ 4 := by omega
      clear ls3 tb3 k4 ls4 tb4 nD cl m0 m1
      show gName 3 (.ref D) [some (.ref c), some (.ref x), some (.int (0 + (i : Int))), v3, v4, v5, v6, v7, v8, v9, v10, v11, v12, v13, v14, v15, v16] H7 _
      dsimp only
      refine g_if (C := fun σ' H' => (∃ u4 : Option V, σ' = [some (.ref c), some (.ref x), some (.int (0 + (i : Int))), some (.ref D), u4, v5, v6, v7, v8, v9, v10, v11, v12, v13, v14, v15, v16]) ∧ ∃ cs : List Int, 1 ≤ cs.length ∧ cs.length ≤ 4 ∧ (∀ e ∈ cs, 0 ≤ e ∧ e ≤ 1000000) ∧ H' D = some (.lst (cs.map V.int)) ∧ LS K H' x c ∧ Tabs (lamT2 Pt Pf) H') (fun D' hD' => ?_) ?_
      · dsimp only [List.set_cons_succ, List.set_cons_zero]
        refine ⟨_, rfl, x, c, 4, rfl, ls7, by decide, by decide, fun r H8 r0 r1 ls8 k8 => ?_⟩
        have hD8 := k8 _ _ nDx hD
        have tb8 := tabs_kp ls7 k8 tb7
        refine ⟨rfl, _, rfl, ?_⟩
        by_cases z0 : r = 0
        · refine ifT (dT (congrArg V.int z0)) ?_
          refine ⟨_, _, rfl, rfl, ⟨by decide, by decide, by decide⟩, _, rfl, D, _, _, _, rfl, rfl, hD8, ix_of (by decide) (by rw [List.length_map]; omega), ?_⟩
          refine hD' _ _ ⟨⟨_, rfl⟩, cs.set 0 1000000, by rw [List.length_set]; exact c1, by rw [List.length_set]; exact c4, fun e he => ?_, by rw [upd_same, List.map_set, ← pow6]; rfl, ls8.updD nDx ny, tabs_extL tb8 (extL_upd hD8)⟩
          rcases List.mem_or_eq_of_mem_set he with h | h
          · exact cb e h
          · omega
        · refine ifF (dF fun e => z0 (V.int.inj e)) ?_
          exact tnext (hD' _ _ ⟨⟨_, rfl⟩, cs, c1, c4, cb, hD8, ls8, tb8⟩)
      clear cb c1 c4 hD ls7 tb7 cs
      rintro σ H8 ⟨⟨u4, rfl⟩, cs, c1, c4, cb, hD, ls8, tb8⟩
      have cp : CP cs := ⟨c1, by omega, cb⟩
      refine ⟨_, rfl, D, cs, rfl, hD, cp, c4, fun z H9 s9 pz => ?_⟩
      have wp : Wp K a x c Pt Pf D z cs H9 := ⟨ls8.same s9, tb8.ext s9, nDx, s9 _ _ hD, pz⟩
      clear s9 hD ls8 tb8 pz
      refine ⟨_, rfl, _, _, rfl, rfl, ⟨by decide, by decide, by decide⟩, by show 2 ≤ sizeLine; decide, fun Lp nLp => ?_⟩
      have sp := same_upd (o := .lst [.int 40, .int (10 ^ (18 : Int).toNat)]) nLp
      have oLp := wp.ls.off nLp
      refine ⟨_, rfl, x, c, 2, rfl, wp.ls.same sp, by decide, by decide, fun r H10 r0 r1 ls10 k10 => ?_⟩
      have wp10 := (wp.same sp).kp k10 ls10
      obtain ⟨e, he, hat⟩ := pickI (es := [40, 10 ^ (18 : Int).toNat]) r0 r1
      have he : e = 40 ∨ e = 1000000000000000000 := by rw [pow18] at he; simpa using he
      refine ⟨Lp, _, _, _, rfl, rfl, SqL.of (k10 _ _ oLp upd_same), hat, x, c, e, rfl, ls10, by omega, by omega, fun n0 H11 q0 q1 ls11 k11 => ⟨by show 2 ≤ sizeLine; decide, fun tp ntp => ?_⟩⟩
      obtain ⟨n, rfl⟩ : ∃ n : Nat, n0 = n := ⟨n0.toNat, by omega⟩
      have n18 : n ≤ 1000000000000000000 := by omega
      have wp12 := (wp10.kp k11 ls11).same (same_upd (o := .tup [.ref z, .int (n : Int)]) ntp)
      refine ⟨tp, _, rfl, SqT.of upd_same, rfl, _, _, rfl, _, _, rfl, rfl, ?_⟩
      generalize upd H11 tp _ = H12 at wp12 ⊢
      clear wp wp10 k10 k11 ls10 ls11 sp nLp oLp hat he q0 q1 r0 r1 ntp
      dsimp only
      show tSeq _ _ _ [some (.ref c), some (.ref x), some (.int (0 + (i : Int))), some (.ref D), u4, some (.ref z), some (.int (n : Int)), v7, v8, v9, v10, v11, v12, v13, v14, v15, v16] H12
      refine seq_one ?_
      obtain ⟨dz, tz, hz, htz⟩ := id wp12.pz
      have n1 : (cs.map V.int).length = cs.length := List.length_map _
      have p1 : (0 : Int) < ((cs.map V.int).length : Nat) := by rw [n1]; omega
      refine or_step ?_
      refine not_alike (C1 := fun v H' => v = .ref tz ∧ Same H12 H') (C2 := fun xv v H' => R2 xv v H' ∧ Same H12 H') (fun Q7 hQ => ⟨_, rfl, z, dz, _, rfl, hz, z, dz, _, .ref tz, rfl, hz, rfl, hQ _ _ ⟨rfl, Same.refl _⟩⟩) (fun xv H13 c1' Q7 hQ => ?_) (fun xv v H13 c2 => ⟨c2.1, fun H14 s14 => ifF rfl ?_⟩)
      · obtain ⟨rfl, s13⟩ := c1'
        refine ⟨_, rfl, D, _, rfl, .inl ⟨SqL.of (s13 _ _ wp12.hC), fun l nl => ?_⟩⟩
        have st := same_upd (o := .tup (cs.map V.int)) nl
        exact hQ _ _ ⟨r2_ints (by omega) (st _ _ (s13 _ _ htz)) upd_same, s13.trans st⟩
      have wp14 := wp12.same (c2.2.trans s14)
      clear wp12 c2 s14 hz htz
      obtain ⟨dz, tz, hz, htz⟩ := id wp14.pz
      refine ⟨_, rfl, z, dz, _, rfl, hz, z, cs, rfl, wp14.pz, cs.length, rfl, by omega, _, rfl, D, _, rfl, .inl (SqL.of wp14.hC), rfl, _, rfl, ifF (by rw [n1]; exact ndF rfl) ?_⟩
      refine seq_ifop ?_
      refine ⟨_, rfl, _, rfl, z, dz, _, rfl, hz, z, cs, n, rfl, wp14.pz, cp, n18, _, rfl, _, rfl, _, rfl, D, _, rfl, .inl (SqL.of wp14.hC), _, _, rfl, rfl, p1, D, _, _, _, rfl, rfl, SqL.of wp14.hC, at_mod2 cs n c1, rfl, _, rfl, ifF (ndF rfl) ?_⟩
      dsimp only
      refine tnext ?_
      dsimp only
      refine seq_unf ?_
      refine ⟨_, rfl, D, _, rfl, .inl (SqL.of wp14.hC), ?_⟩
      rw [n1]
      try dsimp only [List.set_cons_succ, List.set_cons_zero]
      refine g_seq ?_
      try dsimp only [List.set_cons_succ, List.set_cons_zero]
      have sb := sum_bd6 (cs := cs) (fun e he => by have := cb e he; omega)
      have em : (n : Int) % ((cs.length : Nat) : Int) = ((n % cs.length : Nat) : Int) := rfl
      refine ⟨_, rfl, _, rfl, _, _, rfl, rfl, ⟨by omega, by omega⟩, _, rfl, D, cs, rfl, SqL.of wp14.hC, _, _, rfl, rfl, .inr ⟨by omega, by omega⟩, _, rfl, _, rfl, _, rfl, _, _, rfl, rfl, by show (0 : Int) < (cs.length : Nat); omega, ((n % cs.length : Nat) : Int), rfl, D, _, rfl, SqL.of wp14.hC, fun p np => ?_⟩
      rw [cutPre]
      refine ⟨p, _, rfl, SqL.of upd_same, _, _, rfl, ?_⟩
      have wp15 := wp14.same (same_upd (o := .lst ((cs.take (n % cs.length)).map V.int)) np)
      generalize upd H14 p _ = H15 at wp15 ⊢
      clear wp14 hz htz np
      try dsimp only [List.set_cons_succ, List.set_cons_zero]
      refine seq_ifop ?_
      obtain ⟨dz, tz, hz, htz⟩ := id wp15.pz
      refine ⟨z, rfl, _, rfl, dz, _, hz, z, cs, n, rfl, wp15.pz, cp, n18, fun H16 s16 => ⟨_, rfl, _, rfl, _, _, rfl, rfl, rfl, _, rfl, ifF (ndF (congrArg V.int ?_)) ?_⟩⟩
      · rw [Th.sumTo_eq c1 n]
        unfold Th.rsum Th.pre
        simp
      have wp16 := wp15.same s16
      clear wp15 s16 hz htz
      refine tnext ?_
      dsimp only
      refine seq_unf ?_
      refine ⟨_, rfl, D, 2, _, rfl, rfl, wp16.hC, by decide, by decide, by show _ * 2 ≤ sizeLine; rw [n1]; exact Nat.le_trans (by omega : _ ≤ 8) (by decide), fun M nM => ?_⟩
      rw [rep_two]
      have sM := same_upd (o := .lst ((cs ++ cs).map V.int)) nM
      have oM := wp16.ls.off nM
      refine ⟨_, rfl, x, c, 4, rfl, wp16.ls.same sM, by decide, by decide, fun r H17 r0 r1 ls17 k17 => ⟨_, _, rfl, rfl, 1 + r, rfl, ?_⟩⟩
      have wp17 := (wp16.same sM).kp k17 ls17
      have hM17 := k17 _ _ oM upd_same
      obtain ⟨r', rfl⟩ : ∃ r' : Nat, r = r' := ⟨r.toNat, by omega⟩
      have r4 : r' < 4 := by omega
      rw [show (1 : Int) + (r' : Int) = ((1 + r' : Nat) : Int) by omega]
      refine ⟨M, _, rfl, SqL.of hM17, fun O nO => ?_⟩
      rw [cutPre]
      obtain ⟨dcp, d4⟩ := cp.part c4 r' r4
      generalize (cs ++ cs).take (1 + r') = ds at dcp d4 ⊢
      have d1 := dcp.1
      have wp18 := wp17.same (same_upd (o := .lst (ds.map V.int)) nO)
      have hO := upd_same (H := H17) (a := O) (o := .lst (ds.map V.int))
      generalize upd H17 O _ = H18 at wp18 hO ⊢
      clear wp16 sM oM k17 ls17 wp17 hM17 nO r0 r1 r4
      try dsimp only [List.set_cons_succ, List.set_cons_zero]
      refine g_unf ?_
      try dsimp only [List.set_cons_succ, List.set_cons_zero]
      have n2 : (ds.map V.int).length = ds.length := List.length_map _
      have p2 : (0 : Int) < ((ds.map V.int).length : Nat) := by rw [n2]; omega
      refine ⟨12, rfl, by decide, by decide, fun B nB => lc_range (lo := 0) (n := (12 : Int).toNat) (fun i H' => Same H18 H' ∧ H' B = some (.lst ((difs cs ds i).map V.int))) ⟨same_upd nB, upd_same⟩ ?_ ?_⟩
      · rintro j H' hj ⟨s1, hB⟩
        have hj : j < 12 := hj
        refine ⟨rfl, _, rfl, _, rfl, _, rfl, D, _, rfl, .inl (SqL.of (s1 _ _ wp18.hC)), _, _, rfl, rfl, p1, D, _, _, _, rfl, rfl, SqL.of (s1 _ _ wp18.hC), at_mod cs j c1, _, rfl, _, rfl, _, rfl, O, _, rfl, .inl (SqL.of (s1 _ _ hO)), _, _, rfl, rfl, p2, O, _, _, _, rfl, rfl, SqL.of (s1 _ _ hO), at_mod ds j d1, rfl, _, rfl, ?_⟩
        by_cases q : Th.chAt cs j = Th.chAt ds j
        · exact ifF (ndF (congrArg V.int q)) ⟨s1, by rw [difs_succ, if_pos q]; exact hB⟩
        · refine ifT (nT fun e => q (V.int.inj e)) ⟨_, rfl, _, hB, by rw [List.length_map]; exact small1000 (Nat.le_trans (difs_len _ _ _) (by omega)), lcStep' nB s1, ?_⟩
          rw [upd_same, difs_succ, if_neg q, List.map_append, Int.zero_add]
          rfl
      rintro H19 ⟨s19, hB⟩
      refine ⟨by show 0 ≤ sizeLine; decide, fun em nem => eqL_ints (ns := difs cs ds 12) (ms := []) (same_upd nem _ _ hB) upd_same ?_⟩
      have s1920 := s19.trans (same_upd (o := .lst []) nem)
      have wp20 := wp18.same s1920
      have hO20 := s1920 _ _ hO
      generalize upd H19 em _ = H20 at wp20 hO20 ⊢
      have hb0 : decide (difs cs ds 12 = []) = true ↔ SameW cs ds := by
        rw [decide_eq_true_iff, difs_nil]
        exact (sameW_all c1 d1 (lcm12 c4 d4)).symm
      generalize decide (difs cs ds 12 = []) = b0 at hb0 ⊢
      clear wp18 hO s19 hB nB nem s1920
      try dsimp only [List.set_cons_succ, List.set_cons_zero]
      refine g_unf ?_
      try dsimp only [List.set_cons_succ, List.set_cons_zero]
      refine ⟨_, rfl, O, ds, rfl, hO20, dcp, d4, fun z2 H21 s21 pz2 => ?_⟩
      have wp21 := wp20.same s21
      clear wp20 hO20 s21
      refine (?_ : gName 12 _ _ _ (tSeq _ _ _))
      refine g_seq ?_
      try dsimp only [List.set_cons_succ, List.set_cons_zero]
      refine tif_one ?_
      refine or_step ?_
      obtain ⟨dz, tz, hz, htz⟩ := id wp21.pz
      obtain ⟨dz2, tz2, hz2, htz2⟩ := id pz2
      refine ⟨_, rfl, _, rfl, z, dz, _, rfl, hz, .inl ⟨z2, dz2, _, rfl, hz2⟩, z, z2, cs, ds, rfl, wp21.pz, pz2, cp, dcp, fun b1 H22 s22 hb1 => ⟨_, rfl, rfl, _, rfl, ifF (ndF (congrArg V.bl (bool_iff hb1 hb0))) ?_⟩⟩
      refine or_step ?_
      refine ⟨_, rfl, _, rfl, z, dz, _, z2, dz2, _, rfl, rfl, s22 _ _ hz, s22 _ _ hz2, z, z2, cs, ds, rfl, wp21.pz.same s22, pz2.same s22, cp, dcp, fun b2 H23 s23 hb2 => ⟨_, rfl, _, rfl, _, rfl, rfl, _, rfl, ifF (ndF (congrArg (fun b => V.bl (!b)) (bool_iff hb2 hb0))) ?_⟩⟩
      have s2223 := s22.trans s23
      refine ⟨_, rfl, _, rfl, D, _, rfl, .inl ⟨SqL.of (s2223 _ _ wp21.hC), fun l nl => ?_⟩⟩
      have sl := same_upd (o := .tup (cs.map V.int)) nl
      refine ⟨z, dz, _, l, _, rfl, rfl, sl _ _ (s2223 _ _ hz), upd_same, z, l, cs, _, rfl, (wp21.pz.same s2223).same sl, upd_same, _, rfl, ifF rfl ?_⟩
      have wp24 := wp21.same (s2223.trans sl)
      clear wp21 pz2 hz hz2 htz htz2 hb0 hb1 hb2 s22 s23 s2223 sl dcp d1 d4 n2 p2
      refine tnext ?_
      dsimp only
      refine seq_unf ?_
      refine ⟨_, rfl, x, c, 4, rfl, wp24.ls, by decide, by decide, fun r H25 r0 r1 ls25 k25 => ⟨_, rfl, x, c, 5, rfl, ls25, by decide, by decide, fun q H26 q0 q1 ls26 k26 => ⟨rfl, ?_⟩⟩⟩
      have wp26 := (wp24.kp k25 ls25).kp k26 ls26
      clear wp24 k25 k26 ls25 ls26
      refine .inr ⟨_, rfl, ?_⟩
      refine ⟨_, _, rfl, rfl, ?_⟩
      obtain ⟨ti, hti⟩ : ∃ ti : Int, r - (if decide (V.int q = V.int 0) = true then 1 else 0) = ti := ⟨_, rfl⟩
      have ti0 : -1 ≤ ti ∧ ti ≤ 3 := by
        rw [← hti]
        split <;> omega
      try dsimp only
      rw [hti]
      clear hti r0 r1 q0 q1
      try dsimp only [List.set_cons_succ, List.set_cons_zero]
      refine g_unf ?_
      try dsimp only [List.set_cons_succ, List.set_cons_zero]
      have ml : (cs.map fun c => c * ti).length = cs.length := List.length_map _
      refine ⟨_, rfl, D, _, rfl, .inl (SqL.of wp26.hC), (cs.length : Int), by rw [n1], by omega, by omega, fun B nB => lc_range (lo := 0) (n := ((cs.length : Nat) : Int).toNat) (fun i H' => Same H26 H' ∧ H' B = some (.lst ((badsP (cs.map fun c => c * ti) i).map V.int))) ⟨same_upd nB, upd_same⟩ ?_ ?_⟩
      · rintro j H' hj ⟨s1, hB⟩
        have hj : j < cs.length := by omega
        have e0 : (0 : Int) + (j : Int) = (j : Int) := Int.zero_add _
        have hcj : cs[j]? = some (cs.getD j 0) := by rw [List.getD_eq_getElem?_getD, List.getElem?_eq_getElem hj]; rfl
        have hm : (cs.map fun c => c * ti).getD j 0 = cs.getD j 0 * ti := by
          rw [List.getD_eq_getElem?_getD, List.getElem?_map, hcj]; rfl
        have hb := cb _ (List.mem_of_getElem? hcj)
        have bs := badsP_succ (cs.map fun c => c * ti) j
        rw [hm] at bs
        have at_ : atI (cs.map V.int) (0 + (j : Int)) = some (.int (cs.getD j 0)) := by
          rw [e0]
          exact atI_nat (by rw [List.getElem?_map, hcj]; rfl)
        generalize cs.getD j 0 = cj at at_ bs hb
        have good : okP1 (cj * ti) = true → Same H26 H' ∧ H' B = some (.lst ((badsP (cs.map fun c => c * ti) (j + 1)).map V.int)) := fun g => ⟨s1, by rw [bs, if_pos g]; exact hB⟩
        have badc : ¬ okP1 (cj * ti) = true → Same H26 (upd H' B (.lst ((badsP (cs.map fun c => c * ti) j).map V.int ++ [.int (0 + (j : Int))]))) ∧ upd H' B (.lst ((badsP (cs.map fun c => c * ti) j).map V.int ++ [.int (0 + (j : Int))])) B = some (.lst ((badsP (cs.map fun c => c * ti) (j + 1)).map V.int)) := fun g => ⟨lcStep' nB s1, by
          rw [upd_same, bs, if_neg g, e0, List.map_append]; rfl⟩
        have len : ((badsP (cs.map fun c => c * ti) j).map V.int).length < sizeLine := by rw [List.length_map]; exact small1000 (Nat.le_trans (badsP_len _ _) (by omega))
        refine ⟨rfl, _, rfl, _, rfl, D, _, _, _, rfl, rfl, SqL.of (s1 _ _ wp26.hC), at_, _, rfl, _, _, rfl, rfl, .inl ⟨by omega, by omega⟩, _, _, rfl, rfl, _, rfl, ?_⟩
        by_cases g1 : 0 ≤ cj * ti
        · refine ifT (dT g1) ⟨_, _, rfl, rfl, ⟨by decide, by decide, by decide⟩, _, _, rfl, rfl, _, rfl, ?_⟩
          by_cases g2 : cj * ti ≤ 1000000
          · refine ifF (nF (by rw [pow6]; exact g2)) ?_
            exact good (okP1_iff.mpr ⟨g1, g2⟩)
          · refine ifT (nT (by rw [pow6]; exact g2)) ?_
            exact ⟨_, rfl, _, hB, len, badc fun z => g2 (okP1_iff.mp z).2⟩
        · refine ifF (dF g1) ⟨_, rfl, ifT rfl ?_⟩
          exact ⟨_, rfl, _, hB, len, badc fun z => g1 (okP1_iff.mp z).1⟩
      rintro H27 ⟨s27, hB⟩
      have wp27 := wp26.same s27
      rw [show (((cs.length : Nat) : Int)).toNat = cs.length by omega, show badsP (cs.map fun c => c * ti) cs.length = badsP (cs.map fun c => c * ti) (cs.map fun c => c * ti).length by rw [ml]] at hB
      have nBx : B ≠ x := wp26.ls.off nB
      have nyB := wp26.ls.fresh nB
      clear wp26 s27 nB
      try dsimp only [List.set_cons_succ, List.set_cons_zero]
      have ml1 : 1 ≤ (cs.map fun c => c * ti).length := by omega
      have ml24 : (cs.map fun c => c * ti).length ≤ 24 := by omega
      have hnil := badsP_nil ml1 ml24
      have hhead := fun {i r} => badsP_head (i := i) (r := r) ml24
      have hblen := badsP_len (cs.map fun c => c * ti) (cs.map fun c => c * ti).length
      generalize badsP (cs.map fun c => c * ti) (cs.map fun c => c * ti).length = bl at hB hnil hhead hblen
      generalize hms : (cs.map fun c => c * ti) = ms at *
      generalize V.int ((n : Int) / ((cs.length : Nat) : Int) * cs.sum) = w8
      generalize V.int (List.take (n % cs.length) cs).sum = w9
      refine g_asg (C := fun v H' => FoundP a ms v H' ∧ Wp K a x c Pt Pf D z cs H' ∧ H' B = some (.lst (bl.map V.int))) (fun Q7 hQ => ?_) ?_
      · try dsimp only [List.set_cons_succ, List.set_cons_zero]
        refine ⟨wp27.tb, fun f H1 e1 t1 _ la => ⟨f, _, _, _, _, _, rfl, la, ⟨lamS2_by (N := ["_law_script", "_law_state", "_law_turn", "_law_cents", "_law_k", "_law_prices_here", "_law_count", "_law_size", "_law_whole", "_law_rest", "_law_other", "_law_same_here", "_law_twin", "_law_times", "_law_bad", "_law_found", "_law_one"]) (sc := defScope s_law) (by decide +kernel), lamB0 (fun _ _ _ _ _ _ => rfl), fun A outer s H E f c' hr => (pe_op (op_ownMul PO.mul Gmul (b_Prices_mul T) (hr.mono (by decide)) (passes_call (takes_of rfl rfl rfl rfl) (fun _ _ _ _ h => h))) (pv 5) (pv 13))⟩, ?_⟩⟩
        have wp1 := wp27.ext e1 t1
        have hB1 := e1 _ _ hB (fun _ z => nomatch z)
        obtain ⟨dz, tz, hz, htz⟩ := id wp1.pz
        refine ⟨_, rfl, _, rfl, z, dz, _, ti, rfl, rfl, hz, z, cs, ti, rfl, wp1.pz, cp, ?_, ?_⟩
        · rw [hms]
          exact fun g v H' s pv => hQ _ _ ⟨.inl ⟨g, v, rfl, pv⟩, wp1.same s, s _ _ hB1⟩
        · rw [hms]
          exact fun i d H' hb s hd => ⟨_, ⟨_, List.mem_cons_of_mem _ (List.mem_singleton.mpr rfl), rfl, .inl ⟨rfl, d, i, rfl, hd, rfl⟩⟩, fun p H'' s'' hp => hQ _ _ ⟨.inr ⟨i, p, hb, rfl, hp⟩, wp1.same (s.trans s''), (s.trans s'') _ _ hB1⟩⟩
      rintro v H28 ⟨hv, wp28, hB28⟩
      clear wp27 hB
      try dsimp only [List.set_cons_succ, List.set_cons_zero]
      refine g_if (C := fun σ' H' => σ' = [some (.ref c), some (.ref x), some (.int (0 + (i : Int))), some (.ref D), u4, some (.ref z), some (.int (n : Int)), some (.int ((cs.length : Nat) : Int)), some w8, some w9, some (.ref O), some (.bl b0), some (.ref z2), some (.int ti), some (.ref B), some v, v16] ∧ FoundP a ms v H' ∧ Wp K a x c Pt Pf D z cs H' ∧ H' B = some (.lst (bl.map V.int))) (fun D' hD' => ?_) ?_
      · try dsimp only [List.set_cons_succ, List.set_cons_zero]
        refine tif_one ?_
        refine and_step ?_
        refine ⟨_, rfl, by show 0 ≤ sizeLine; decide, fun em nem => neL_ints (ns := bl) (ms := []) (same_upd nem _ _ hB28) upd_same ⟨_, rfl, ?_⟩⟩
        have se := same_upd (o := .lst []) nem
        have hv29 := hv.same se
        have wp29 := wp28.same se
        have hB29 := se _ _ hB28
        generalize upd H28 em _ = H29 at hv29 wp29 hB29 ⊢
        cases bl with
        | nil =>
          refine ifF rfl (ifF rfl ?_)
          exact tnext (hD' _ _ ⟨rfl, hv29, wp29, hB29⟩)
        | cons i0 r0 =>
          obtain ⟨j0, rfl, bj⟩ := hhead rfl
          refine ifT rfl ?_
          rcases hv29 with ⟨g, _⟩ | ⟨i1, p1', b1, rfl, hp1⟩
          · exact (g.good bj).elim
          · obtain rfl := badP_uniq bj b1
            refine ⟨_, rfl, _, rfl, B, _, _, _, rfl, rfl, SqL.of hB29, at_int (Int.le_refl 0) rfl, by show 2 ≤ sizeLine; decide, fun tq ntq => ?_⟩
            have sq := same_upd (o := .tup [.str "InvalidPrices", .int (j0 : Int)]) ntq
            refine neD_self (d := .tuple [.str "InvalidPrices", .int (j0 : Int)]) (.tup (SqT.of (sq _ _ hp1)) (.cons (.str _) (.cons (.int _) .nil))) (.tup (SqT.of upd_same) (.cons (.str _) (.cons (.int _) .nil))) (Sh.tup (n := 0) (sh_cons (Sh.str (by decide +kernel)) (sh_cons Sh.int sh_nil))).shaped ⟨_, rfl, ifF rfl ?_⟩
            exact tnext (hD' _ _ ⟨rfl, .inr ⟨j0, p1', bj, rfl, sq _ _ hp1⟩, wp29.same sq, sq _ _ hB29⟩)
      rintro σ H30 ⟨rfl, hv30, wp30, hB30⟩
      clear wp28 hB28 hv
      refine seq_if (C := fun σ' H' => (∃ u16, σ' = [some (.ref c), some (.ref x), some (.int (0 + (i : Int))), some (.ref D), u4, some (.ref z), some (.int (n : Int)), some (.int ((cs.length : Nat) : Int)), some w8, some w9, some (.ref O), some (.bl b0), some (.ref z2), some (.int ti), some (.ref B), some v, u16]) ∧ Wp K a x c Pt Pf D z cs H') (fun D' hD' => ?_) ?_
      · refine tif_one ?_
        refine and_step ?_
        refine ⟨_, rfl, by show 0 ≤ sizeLine; decide, fun em nem => eqL_ints (ns := bl) (ms := []) (same_upd nem _ _ hB30) upd_same ⟨_, rfl, ?_⟩⟩
        have se := same_upd (o := .lst []) nem
        have hv31 := hv30.same se
        have wp31 := wp30.same se
        generalize upd H30 em _ = H31 at hv31 wp31 ⊢
        cases bl with
        | cons i0 r0 => exact ifF rfl (ifF rfl (tnext (hD' _ _ ⟨⟨_, rfl⟩, wp31⟩)))
        | nil =>
          refine ifT rfl ?_
          rcases hv31 with ⟨g, z3, rfl, pz3⟩ | ⟨i1, p1', b1, rfl, hp1⟩
          · obtain ⟨dz3, tz3, hz3, htz3⟩ := id pz3
            refine ⟨_, rfl, z3, dz3, _, rfl, hz3, z3, dz3, _, .ref tz3, rfl, hz3, rfl, ?_⟩
            refine ⟨_, rfl, D, rfl, ⟨_, SqL.of wp31.hC⟩, fun G nG => lc_list (K := K) (a := D) (xs := cs.map V.int) (fun i H2 => Same H31 H2 ∧ H2 G = some (.lst (((cs.take i).map fun c => c * ti).map V.int))) ⟨same_upd nG, upd_same⟩ (fun j H2 _ q => SqL.of (q.1 _ _ wp31.hC)) ?_ ?_⟩
            · rintro j v H2 hx ⟨s2, hG⟩
              obtain ⟨c0, hc0, rfl⟩ := intAt hx
              have hb := cb _ (List.mem_of_getElem? hc0)
              refine ⟨rfl, _, rfl, _, rfl, _, _, rfl, rfl, .inl ⟨by omega, by omega⟩, _, hG, by rw [List.length_map, List.length_map]; exact small1000 (Nat.le_trans (List.length_take_le' _ _) (by omega)), lcStep' nG s2, ?_⟩
              rw [upd_same, List.take_succ, hc0]
              simp
            · rintro H2 ⟨s2, hG⟩
              rw [List.length_map, List.take_length, hms] at hG
              refine ⟨G, _, rfl, .inl ⟨SqL.of hG, fun l nl => ?_⟩⟩
              have sl := same_upd (o := .tup (ms.map V.int)) nl
              refine neT_ints ((s2.trans sl) _ _ htz3) upd_same ⟨_, rfl, ifF (by rw [decide_eq_true rfl]; rfl) ?_⟩
              exact tnext (hD' _ _ ⟨⟨_, rfl⟩, wp31.same (s2.trans sl)⟩)
          · exact ((hnil.mp rfl).good b1).elim
      rintro σ H32 ⟨⟨u16, rfl⟩, wp32⟩
      refine ⟨_, rfl, _, _, rfl, rfl, _, _, rfl, rfl, ⟨by decide, by decide, by decide⟩, _, _, rfl, rfl, by show 2 ≤ sizeLine; decide, fun Lp nLp => ?_⟩
      have sp := same_upd (o := .lst [.int (0 - 1), .int (10 ^ (6 : Int).toNat + 1)]) nLp
      have oLp := wp32.ls.off nLp
      refine ⟨_, rfl, x, c, 2, rfl, wp32.ls.same sp, by decide, by decide, fun r H33 r0 r1 ls33 k33 => ?_⟩
      have wp33 := (wp32.same sp).kp k33 ls33
      obtain ⟨e, he, hat⟩ := pickI (es := [0 - 1, 10 ^ (6 : Int).toNat + 1]) r0 r1
      have he : e = -1 ∨ e = 1000001 := by rw [pow6] at he; simpa using he
      refine ⟨Lp, _, _, _, rfl, rfl, SqL.of (k33 _ _ oLp upd_same), hat, z, cs, e, rfl, wp33.pz, by omega, wp33.tb, fun H34 e34 t34 => ⟨_, rfl, ifF rfl ?_⟩⟩
      exact ⟨_, rfl, rfl, wp33.ls.ext e34, t34⟩
    · rintro σ H3 ⟨vs, rfl, lvs, ls3, tb3⟩
      exact ⟨_, rfl, x, c, rfl, ls3, fun H4 => k _⟩
end
end W6

namespace W6
open PySem PySem.Spec PyProof.Rows L2 Ru StX LamX
theorem isS_ok {α : Type} : ∀ {o : Option α}, isS o = true → ∃ x, o = some x
  | some x, _ => ⟨x, rfl⟩
  | none, h => by cases h
def erA2 (K : PySem.W.Frag) : Er2 := ⟨He.ga K "InvalidNumber", He.ga K "InvalidPrices", He.ma K (He.ga K "InvalidPrices") "__init__"⟩
theorem ei_of {P : Program} {K : PySem.W.Frag} {h : Heap} {mg : Str → Option Value} {nm q : Str} {st : Stmt} (X : K.In h) (G : h.Ns mainGlobals mg) (b : (eiL K nm q P.main.file).all id = true) (x : Hq2.moX K (He.ma K (He.ga K nm) "__init__") = Hq2.mvX "__init__" q st)
    (ms : ∃ (msg : Str) (k : Nat) (p1 p2 r1 r2 r3 r4 r5 r6 r7 r8 r9 q1 q2 q3 q4 : Pos), (r3.endLine == r8.line) = true ∧ defArgs st = PySem.IxX.iA p1 p2 ∧ defBody st = PySem.IxX.iB msg k r1 r2 r3 r4 r5 r6 r7 r8 r9 q1 q2 q3 q4 ∧ defScope st = PySem.IxX.iS ∧ msg.length ≤ 1000)
    (top : (P.main.scope.names.lookup ("super" : Str)).isSome = false) : Ei P K mg nm (He.ga K nm) (He.ma K (He.ga K nm) "__init__") := by
  have at_ : ∀ (i : Nat) (c : Bool), (eiL K nm q P.main.file)[i]? = some c → c = true := fun i c e => List.all_eq_true.mp b c (List.mem_of_getElem? e)
  have ex : ExcC K (He.ga K nm) := Hq2.excB_ok (at_ 1 _ rfl)
  have hix : Hq2.ixB K (He.ga K nm) = true := at_ 3 _ rfl
  obtain ⟨b1, hix⟩ := He.ba hix
  obtain ⟨b2, hix⟩ := He.ba hix
  obtain ⟨b3, hix⟩ := He.ba hix
  obtain ⟨b4, hix⟩ := He.ba hix
  obtain ⟨b5, hix⟩ := He.ba hix
  obtain ⟨b6, hix⟩ := He.ba hix
  obtain ⟨b7, hix⟩ := He.ba hix
  obtain ⟨b8, hix⟩ := He.ba hix
  obtain ⟨b9, hix⟩ := He.ba hix
  obtain ⟨b10, b11⟩ := He.ba hix
  obtain ⟨oc, od, doc, pm, an, cda, cc, ct, osl, lk, co, ⟨ccl, cdd, vs, ccs, tf, hcode, hvs⟩, hcell⟩ := Hq2.mx_ok x (at_ 4 _ rfl) (at_ 5 _ rfl) (at_ 6 _ rfl)
  obtain ⟨msg, k, p1, p2, r1, r2, r3, r4, r5, r6, r7, r8, r9, q1, q2, q3, q4, el, ea, eb, es, eml⟩ := ms
  rw [ea, eb, es] at lk
  exact ⟨{
      gC := PySem.W.mg_of X G (He.eqO_ok (at_ 0 _ rfl))
      cls := Hq2.ixClsB_ok b1
      sa := He.eqO_ok b2
      ga := ex.hg
      gg := ex.hk
      noN := He.eqO_ok b3
      iC := He.eqO_ok b4
      tC := of_decide_eq_true b5
      kC := b6
      exC := ex.hs
      tyC := of_decide_eq_true b7
      hdC := ex.hd
      mr := of_decide_eq_true b8
      su := He.eqO_ok b9
      ve := of_decide_eq_true b10
      any := He.eqO_ok b11
      noS := PySem.W.mg_none_of X G (He.eqO_ok (at_ 2 _ rfl))
      top := top
      fn := ⟨oc, od, q, doc, pm, an, cda, cc, ct, osl, msg, k, p1, p2, r1, r2, r3, r4, r5, r6, r7, r8, r9, q1, q2, q3, q4, el, lk, co, eml, ⟨ccl, cdd, vs, ccs, _, tf, hcode, hvs, by simp⟩, hcell⟩ }, ex⟩
theorem ep_of {K : PySem.W.Frag} {h : Heap} {mg : Str → Option Value} {nm : Str} (X : K.In h) (G : h.Ns mainGlobals mg) (b : (epL K nm).all id = true) : Ep K mg nm (He.ga K nm) := by
  have at_ : ∀ (i : Nat) (c : Bool), (epL K nm)[i]? = some c → c = true := fun i c e => List.all_eq_true.mp b c (List.mem_of_getElem? e)
  exact ⟨PySem.W.mg_of X G (He.eqO_ok (at_ 0 _ rfl)), Hq2.excB_ok (at_ 1 _ rfl), at_ 2 _ rfl, at_ 3 _ rfl, of_decide_eq_true (at_ 4 _ rfl), of_decide_eq_true (at_ 5 _ rfl)⟩
theorem xm_of {K : PySem.W.Frag} {x y : Str} {c : Bool} (b : xmB K x y c = true) : PySem.W.exmOne K (.ref (He.ga K x)) (.ref (He.ga K y)) = some c := of_decide_eq_true b
end W6

namespace W6
open PySem PySem.Spec PyProof.Rows L2 Ru StX LamX
theorem pO_of {K : PySem.W.Frag} {a : Ad} (e : a.c_Prices = He.ga K "Prices") (f : a.f_Prices_eq = He.ma K (He.ga K "Prices") "__eq__") (g : a.f_Prices_mul = He.ma K (He.ga K "Prices") "__mul__") (u : a.f_Prices_call = He.ma K (He.ga K "Prices") "__call__") (v : a.f_Prices_getitem = He.ma K (He.ga K "Prices") "__getitem__")
    (b : (poL K).all id = true) : POp K a := by
  have at_ : ∀ (i : Nat) (c : Bool), (poL K)[i]? = some c → c = true := fun i c e => List.all_eq_true.mp b c (List.mem_of_getElem? e)
  have ne : NeC K a.c_Prices a.f_Prices_eq := by rw [e, f]; exact ⟨He.eqO_ok (at_ 1 _ rfl), He.eqO_ok (at_ 2 _ rfl), at_ 3 _ rfl, at_ 4 _ rfl⟩
  exact {
    hm := by rw [e]; exact at_ 0 _ rfl
    ne := ne
    kit := by rw [e]; exact of_decide_eq_true (at_ 5 _ rfl)
    cc := by rw [e]; exact He.eqO_ok (at_ 6 _ rfl)
    hn := He.eqO_ok (at_ 7 _ rfl)
    tk := of_decide_eq_true (at_ 8 _ rfl)
    mo := by rw [e]; exact of_decide_eq_true (at_ 9 _ rfl)
    mul := by rw [e, g]; exact ⟨at_ 10 _ rfl, He.eqO_ok (at_ 11 _ rfl), at_ 12 _ rfl, He.eqO_ok (at_ 13 _ rfl), isS_ok (at_ 14 _ rfl), isS_ok (at_ 15 _ rfl), of_decide_eq_true (at_ 16 _ rfl)⟩
    eq := ⟨ne.eq, ne.fn, by rw [e]; exact at_ 17 _ rfl, by rw [e]; exact at_ 18 _ rfl⟩
    n3 := by rw [e]; exact at_ 19 _ rfl
    fc := by rw [u]; exact at_ 20 _ rfl
    fg := by rw [v]; exact at_ 21 _ rfl
    kt := by rw [e]; exact of_decide_eq_true (at_ 22 _ rfl)
    cr := by rw [e]; exact ⟨at_ 23 _ rfl, He.eqO_ok (at_ 24 _ rfl)⟩
    v24 := by rw [e]; exact Hq2.cvalB_ok (at_ 25 _ rfl)
    vM := by rw [e]; exact Hq2.cvalB_ok (at_ 26 _ rfl) }
end W6

namespace W6
open PySem PySem.Spec PyProof.Rows L2 Ru StX
theorem h_ns_Prices {h : Heap} {K : PySem.W.Frag} (c : Hq2.Says hS h K) : PySem.W.nsIn K mainGlobals "Prices" = some (some (.ref (He.ga K "Prices"))) := He.eqO_ok (c.fact 0 rfl)
theorem h_pg_Prices {h : Heap} {K : PySem.W.Frag} (c : Hq2.Says hS h K) : PySem.W.plainGet K (He.ga K "Prices") Str.empty = true := id (c.fact 1 rfl)
theorem h_hd_Prices {h : Heap} {K : PySem.W.Frag} (c : Hq2.Says hS h K) : PySem.W.hasDictIn K (He.ga K "Prices") = true := id (c.fact 2 rfl)
theorem h_po_Prices {h : Heap} {K : PySem.W.Frag} (c : Hq2.Says hS h K) : PySem.W.plainOver K (He.ga K "Prices") = true := id (c.fact 3 rfl)
theorem h_sa_Prices {h : Heap} {K : PySem.W.Frag} (c : Hq2.Says hS h K) : PySem.W.findIn K (.ref (He.ga K "Prices")) "__setattr__" = some (some (.builtin "object.__setattr__")) := He.eqO_ok (c.fact 4 rfl)
theorem h_na_Prices__cents {h : Heap} {K : PySem.W.Frag} (c : Hq2.Says hS h K) : PySem.W.findIn K (.ref (He.ga K "Prices")) "_cents" = some none := He.eqO_ok (c.fact 5 rfl)
theorem h_at_check_number {h : Heap} {K : PySem.W.Frag} (c : Hq2.Says hS h K) : PySem.W.nsIn K mainGlobals "check_number" = some (some (.ref (He.ga K "check_number"))) := He.eqO_ok (c.fact 6 rfl)
theorem h_kp_check_number {h : Heap} {K : PySem.W.Frag} (c : Hq2.Says hS h K) : PySem.W.keepIn K (.ref (He.ga K "check_number")) = true := id (c.fact 7 rfl)
theorem h_at_first_invalid {h : Heap} {K : PySem.W.Frag} (c : Hq2.Says hS h K) : PySem.W.nsIn K mainGlobals "first_invalid" = some (some (.ref (He.ga K "first_invalid"))) := He.eqO_ok (c.fact 8 rfl)
theorem h_kp_first_invalid {h : Heap} {K : PySem.W.Frag} (c : Hq2.Says hS h K) : PySem.W.keepIn K (.ref (He.ga K "first_invalid")) = true := id (c.fact 9 rfl)
theorem h_at_sum_of_first {h : Heap} {K : PySem.W.Frag} (c : Hq2.Says hS h K) : PySem.W.nsIn K mainGlobals "sum_of_first" = some (some (.ref (He.ga K "sum_of_first"))) := He.eqO_ok (c.fact 10 rfl)
theorem h_kp_sum_of_first {h : Heap} {K : PySem.W.Frag} (c : Hq2.Says hS h K) : PySem.W.keepIn K (.ref (He.ga K "sum_of_first")) = true := id (c.fact 11 rfl)
theorem h_at_same_rounds {h : Heap} {K : PySem.W.Frag} (c : Hq2.Says hS h K) : PySem.W.nsIn K mainGlobals "same_rounds" = some (some (.ref (He.ga K "same_rounds"))) := He.eqO_ok (c.fact 12 rfl)
theorem h_kp_same_rounds {h : Heap} {K : PySem.W.Frag} (c : Hq2.Says hS h K) : PySem.W.keepIn K (.ref (He.ga K "same_rounds")) = true := id (c.fact 13 rfl)
theorem h_at_Prices_init {h : Heap} {K : PySem.W.Frag} (c : Hq2.Says hS h K) : PySem.W.findIn K (.ref (He.ga K "Prices")) "__init__" = some (some (.ref (He.ma K (He.ga K "Prices") "__init__"))) := He.eqO_ok (c.fact 14 rfl)
theorem h_fn_Prices_init {h : Heap} {K : PySem.W.Frag} (c : Hq2.Says hS h K) : PySem.W.isFn K (.ref (He.ma K (He.ga K "Prices") "__init__")) = true := id (c.fact 15 rfl)
theorem h_kp_Prices_init {h : Heap} {K : PySem.W.Frag} (c : Hq2.Says hS h K) : PySem.W.keepIn K (.ref (He.ma K (He.ga K "Prices") "__init__")) = true := id (c.fact 16 rfl)
theorem h_mk_Prices {h : Heap} {K : PySem.W.Frag} (c : Hq2.Says hS h K) : PySem.W.makesIn K (He.ga K "Prices") = true := id (c.fact 17 rfl)
theorem h_kc_Prices {h : Heap} {K : PySem.W.Frag} (c : Hq2.Says hS h K) : PySem.W.keepIn K (.ref (He.ga K "Prices")) = true := id (c.fact 18 rfl)
theorem h_at_Prices_len {h : Heap} {K : PySem.W.Frag} (c : Hq2.Says hS h K) : PySem.W.findIn K (.ref (He.ga K "Prices")) "__len__" = some (some (.ref (He.ma K (He.ga K "Prices") "__len__"))) := He.eqO_ok (c.fact 19 rfl)
theorem h_fn_Prices_len {h : Heap} {K : PySem.W.Frag} (c : Hq2.Says hS h K) : PySem.W.isFn K (.ref (He.ma K (He.ga K "Prices") "__len__")) = true := id (c.fact 20 rfl)
theorem h_kp_Prices_len {h : Heap} {K : PySem.W.Frag} (c : Hq2.Says hS h K) : PySem.W.keepIn K (.ref (He.ma K (He.ga K "Prices") "__len__")) = true := id (c.fact 21 rfl)
theorem h_at_Prices_getitem {h : Heap} {K : PySem.W.Frag} (c : Hq2.Says hS h K) : PySem.W.findIn K (.ref (He.ga K "Prices")) "__getitem__" = some (some (.ref (He.ma K (He.ga K "Prices") "__getitem__"))) := He.eqO_ok (c.fact 22 rfl)
theorem h_fn_Prices_getitem {h : Heap} {K : PySem.W.Frag} (c : Hq2.Says hS h K) : PySem.W.isFn K (.ref (He.ma K (He.ga K "Prices") "__getitem__")) = true := id (c.fact 23 rfl)
theorem h_kp_Prices_getitem {h : Heap} {K : PySem.W.Frag} (c : Hq2.Says hS h K) : PySem.W.keepIn K (.ref (He.ma K (He.ga K "Prices") "__getitem__")) = true := id (c.fact 24 rfl)
theorem h_at_Prices_call {h : Heap} {K : PySem.W.Frag} (c : Hq2.Says hS h K) : PySem.W.findIn K (.ref (He.ga K "Prices")) "__call__" = some (some (.ref (He.ma K (He.ga K "Prices") "__call__"))) := He.eqO_ok (c.fact 25 rfl)
theorem h_fn_Prices_call {h : Heap} {K : PySem.W.Frag} (c : Hq2.Says hS h K) : PySem.W.isFn K (.ref (He.ma K (He.ga K "Prices") "__call__")) = true := id (c.fact 26 rfl)
theorem h_kp_Prices_call {h : Heap} {K : PySem.W.Frag} (c : Hq2.Says hS h K) : PySem.W.keepIn K (.ref (He.ma K (He.ga K "Prices") "__call__")) = true := id (c.fact 27 rfl)
theorem h_at_Prices_eq {h : Heap} {K : PySem.W.Frag} (c : Hq2.Says hS h K) : PySem.W.findIn K (.ref (He.ga K "Prices")) "__eq__" = some (some (.ref (He.ma K (He.ga K "Prices") "__eq__"))) := He.eqO_ok (c.fact 28 rfl)
theorem h_fn_Prices_eq {h : Heap} {K : PySem.W.Frag} (c : Hq2.Says hS h K) : PySem.W.isFn K (.ref (He.ma K (He.ga K "Prices") "__eq__")) = true := id (c.fact 29 rfl)
theorem h_kp_Prices_eq {h : Heap} {K : PySem.W.Frag} (c : Hq2.Says hS h K) : PySem.W.keepIn K (.ref (He.ma K (He.ga K "Prices") "__eq__")) = true := id (c.fact 30 rfl)
theorem h_at_Prices_mul {h : Heap} {K : PySem.W.Frag} (c : Hq2.Says hS h K) : PySem.W.findIn K (.ref (He.ga K "Prices")) "__mul__" = some (some (.ref (He.ma K (He.ga K "Prices") "__mul__"))) := He.eqO_ok (c.fact 31 rfl)
theorem h_fn_Prices_mul {h : Heap} {K : PySem.W.Frag} (c : Hq2.Says hS h K) : PySem.W.isFn K (.ref (He.ma K (He.ga K "Prices") "__mul__")) = true := id (c.fact 32 rfl)
theorem h_kp_Prices_mul {h : Heap} {K : PySem.W.Frag} (c : Hq2.Says hS h K) : PySem.W.keepIn K (.ref (He.ma K (He.ga K "Prices") "__mul__")) = true := id (c.fact 33 rfl)
theorem h_at__law_start {h : Heap} {K : PySem.W.Frag} (c : Hq2.Says hS h K) : PySem.W.nsIn K mainGlobals "_law_start" = some (some (.ref (He.ga K "_law_start"))) := He.eqO_ok (c.fact 34 rfl)
theorem h_kp__law_start {h : Heap} {K : PySem.W.Frag} (c : Hq2.Says hS h K) : PySem.W.keepIn K (.ref (He.ga K "_law_start")) = true := id (c.fact 35 rfl)
theorem h_at__law_drawn {h : Heap} {K : PySem.W.Frag} (c : Hq2.Says hS h K) : PySem.W.nsIn K mainGlobals "_law_drawn" = some (some (.ref (He.ga K "_law_drawn"))) := He.eqO_ok (c.fact 36 rfl)
theorem h_kp__law_drawn {h : Heap} {K : PySem.W.Frag} (c : Hq2.Says hS h K) : PySem.W.keepIn K (.ref (He.ga K "_law_drawn")) = true := id (c.fact 37 rfl)
theorem h_at__law_same {h : Heap} {K : PySem.W.Frag} (c : Hq2.Says hS h K) : PySem.W.nsIn K mainGlobals "_law_same" = some (some (.ref (He.ga K "_law_same"))) := He.eqO_ok (c.fact 38 rfl)
theorem h_kp__law_same {h : Heap} {K : PySem.W.Frag} (c : Hq2.Says hS h K) : PySem.W.keepIn K (.ref (He.ga K "_law_same")) = true := id (c.fact 39 rfl)
theorem h_at__law_outcome {h : Heap} {K : PySem.W.Frag} (c : Hq2.Says hS h K) : PySem.W.nsIn K mainGlobals "_law_outcome" = some (some (.ref (He.ga K "_law_outcome"))) := He.eqO_ok (c.fact 40 rfl)
theorem h_kp__law_outcome {h : Heap} {K : PySem.W.Frag} (c : Hq2.Says hS h K) : PySem.W.keepIn K (.ref (He.ga K "_law_outcome")) = true := id (c.fact 41 rfl)
theorem h_at__law_prices {h : Heap} {K : PySem.W.Frag} (c : Hq2.Says hS h K) : PySem.W.nsIn K mainGlobals "_law_prices" = some (some (.ref (He.ga K "_law_prices"))) := He.eqO_ok (c.fact 42 rfl)
theorem h_kp__law_prices {h : Heap} {K : PySem.W.Frag} (c : Hq2.Says hS h K) : PySem.W.keepIn K (.ref (He.ga K "_law_prices")) = true := id (c.fact 43 rfl)
theorem h_at__law_long {h : Heap} {K : PySem.W.Frag} (c : Hq2.Says hS h K) : PySem.W.nsIn K mainGlobals "_law_long" = some (some (.ref (He.ga K "_law_long"))) := He.eqO_ok (c.fact 44 rfl)
theorem h_kp__law_long {h : Heap} {K : PySem.W.Frag} (c : Hq2.Says hS h K) : PySem.W.keepIn K (.ref (He.ga K "_law_long")) = true := id (c.fact 45 rfl)
theorem h_at__law_refused {h : Heap} {K : PySem.W.Frag} (c : Hq2.Says hS h K) : PySem.W.nsIn K mainGlobals "_law_refused" = some (some (.ref (He.ga K "_law_refused"))) := He.eqO_ok (c.fact 46 rfl)
theorem h_kp__law_refused {h : Heap} {K : PySem.W.Frag} (c : Hq2.Says hS h K) : PySem.W.keepIn K (.ref (He.ga K "_law_refused")) = true := id (c.fact 47 rfl)
theorem h_at_law {h : Heap} {K : PySem.W.Frag} (c : Hq2.Says hS h K) : PySem.W.nsIn K mainGlobals "law" = some (some (.ref (He.ga K "law"))) := He.eqO_ok (c.fact 48 rfl)
theorem h_kp_law {h : Heap} {K : PySem.W.Frag} (c : Hq2.Says hS h K) : PySem.W.keepIn K (.ref (He.ga K "law")) = true := id (c.fact 49 rfl)
theorem h_at_Prices_cents {h : Heap} {K : PySem.W.Frag} (c : Hq2.Says hS h K) : PySem.W.findIn K (.ref (He.ga K "Prices")) "cents" = some (some (.ref (He.ma K (He.ga K "Prices") "cents"))) := He.eqO_ok (c.fact 50 rfl)
theorem h_gt_Prices_cents {h : Heap} {K : PySem.W.Frag} (c : Hq2.Says hS h K) : PySem.W.specialIn K (.ref (He.ma K (He.ga K "Prices") "cents")) "__get__" = some (some (.builtin "property.__get__")) := He.eqO_ok (c.fact 51 rfl)
theorem h_tk_Prices_cents {h : Heap} {K : PySem.W.Frag} (c : Hq2.Says hS h K) : PySem.W.takesIn K (.ref (He.ma K (He.ga K "Prices") "cents")) = some true := of_decide_eq_true (c.fact 52 rfl)
theorem h_rc_Prices_cents {h : Heap} {K : PySem.W.Frag} (c : Hq2.Says hS h K) : PySem.W.recIn K (He.ma K (He.ga K "Prices") "cents") "property" = some (.ref (Hq.gtA K (He.ma K (He.ga K "Prices") "cents")) :: Hq.gtR K (He.ma K (He.ga K "Prices") "cents")) := Hq.gtB_ok (c.fact 53 rfl)
theorem h_kp_Prices_cents {h : Heap} {K : PySem.W.Frag} (c : Hq2.Says hS h K) : PySem.W.keepIn K (.ref (Hq.gtA K (He.ma K (He.ga K "Prices") "cents"))) = true := id (c.fact 54 rfl)
theorem h_gl_MOST_TICKS {h : Heap} {K : PySem.W.Frag} (c : Hq2.Says hS h K) : ∃ t, PySem.W.nsIn K mainGlobals "MOST_TICKS" = some (some (.int 1000000000000000000 t)) := Hq.inB_ok (c.fact 55 rfl)
theorem h_gl_lcm {h : Heap} {K : PySem.W.Frag} (c : Hq2.Says hS h K) : PySem.W.nsIn K mainGlobals "lcm" = some (some (.builtin "math.lcm")) := He.eqO_ok (c.fact 56 rfl)
theorem h_z_bool {h : Heap} {K : PySem.W.Frag} (c : Hq2.Says hS h K) : PySem.W.nsIn K mainGlobals "bool" = some none := He.eqO_ok (c.fact 57 rfl)
theorem h_z_divmod {h : Heap} {K : PySem.W.Frag} (c : Hq2.Says hS h K) : PySem.W.nsIn K mainGlobals "divmod" = some none := He.eqO_ok (c.fact 58 rfl)
theorem h_z_enumerate {h : Heap} {K : PySem.W.Frag} (c : Hq2.Says hS h K) : PySem.W.nsIn K mainGlobals "enumerate" = some none := He.eqO_ok (c.fact 59 rfl)
theorem h_z_int {h : Heap} {K : PySem.W.Frag} (c : Hq2.Says hS h K) : PySem.W.nsIn K mainGlobals "int" = some none := He.eqO_ok (c.fact 60 rfl)
theorem h_z_isinstance {h : Heap} {K : PySem.W.Frag} (c : Hq2.Says hS h K) : PySem.W.nsIn K mainGlobals "isinstance" = some none := He.eqO_ok (c.fact 61 rfl)
theorem h_z_len {h : Heap} {K : PySem.W.Frag} (c : Hq2.Says hS h K) : PySem.W.nsIn K mainGlobals "len" = some none := He.eqO_ok (c.fact 62 rfl)
theorem h_z_list {h : Heap} {K : PySem.W.Frag} (c : Hq2.Says hS h K) : PySem.W.nsIn K mainGlobals "list" = some none := He.eqO_ok (c.fact 63 rfl)
theorem h_z_range {h : Heap} {K : PySem.W.Frag} (c : Hq2.Says hS h K) : PySem.W.nsIn K mainGlobals "range" = some none := He.eqO_ok (c.fact 64 rfl)
theorem h_z_sum {h : Heap} {K : PySem.W.Frag} (c : Hq2.Says hS h K) : PySem.W.nsIn K mainGlobals "sum" = some none := He.eqO_ok (c.fact 65 rfl)
theorem h_z_tuple {h : Heap} {K : PySem.W.Frag} (c : Hq2.Says hS h K) : PySem.W.nsIn K mainGlobals "tuple" = some none := He.eqO_ok (c.fact 66 rfl)
theorem h_cv_Prices_MAX_PRICE {h : Heap} {K : PySem.W.Frag} (c : Hq2.Says hS h K) : ∃ t, PySem.W.findIn K (.ref (He.ga K "Prices")) "MAX_PRICE" = some (some (.int 1000000 t)) ∧ PySem.W.specialIn K (.int 1000000 t) "__get__" = some none := Hq.cvB_ok (c.fact 67 rfl)
theorem h_cv_Prices_MAX_TICKS {h : Heap} {K : PySem.W.Frag} (c : Hq2.Says hS h K) : ∃ t, PySem.W.findIn K (.ref (He.ga K "Prices")) "MAX_TICKS" = some (some (.int 24 t)) ∧ PySem.W.specialIn K (.int 24 t) "__get__" = some none := Hq.cvB_ok (c.fact 68 rfl)
theorem h_epn {h : Heap} {K : PySem.W.Frag} (c : Hq2.Says hS h K) : (epL K "InvalidNumber").all id = true := id (c.fact 69 rfl)
theorem h_eix {h : Heap} {K : PySem.W.Frag} (c : Hq2.Says hS h K) : (eiL K "InvalidPrices" "InvalidPrices.__init__" hR.prog.main.file).all id = true := id (c.fact 70 rfl)
theorem h_x1 {h : Heap} {K : PySem.W.Frag} (c : Hq2.Says hS h K) : xmB K "InvalidNumber" "InvalidNumber" true = true := id (c.fact 71 rfl)
theorem h_x2 {h : Heap} {K : PySem.W.Frag} (c : Hq2.Says hS h K) : xmB K "InvalidPrices" "InvalidNumber" false = true := id (c.fact 72 rfl)
theorem h_x3 {h : Heap} {K : PySem.W.Frag} (c : Hq2.Says hS h K) : xmB K "InvalidPrices" "InvalidPrices" true = true := id (c.fact 73 rfl)
theorem h_po {h : Heap} {K : PySem.W.Frag} (c : Hq2.Says hS h K) : (poL K).all id = true := id (c.fact 74 rfl)
theorem h_nq {h : Heap} {K : PySem.W.Frag} (c : Hq2.Says hS h K) : nqB K = true := id (c.fact 75 rfl)
theorem h_def_check_number {h : Heap} {K : PySem.W.Frag} (c : Hq2.Says hS h K) : Hq.mo K (He.ga K "check_number") = Hq.mv "check_number" "check_number" s_check_number := c.fn 0 rfl
theorem h_co_check_number {h : Heap} {K : PySem.W.Frag} (c : Hq2.Says hS h K) : Hq.coB K (He.ga K "check_number") "check_number" = true := c.fact 76 rfl
theorem h_def_first_invalid {h : Heap} {K : PySem.W.Frag} (c : Hq2.Says hS h K) : Hq.mo K (He.ga K "first_invalid") = Hq.mv "first_invalid" "first_invalid" s_first_invalid := c.fn 1 rfl
theorem h_co_first_invalid {h : Heap} {K : PySem.W.Frag} (c : Hq2.Says hS h K) : Hq.coB K (He.ga K "first_invalid") "first_invalid" = true := c.fact 77 rfl
theorem h_def_sum_of_first {h : Heap} {K : PySem.W.Frag} (c : Hq2.Says hS h K) : Hq.mo K (He.ga K "sum_of_first") = Hq.mv "sum_of_first" "sum_of_first" s_sum_of_first := c.fn 2 rfl
theorem h_co_sum_of_first {h : Heap} {K : PySem.W.Frag} (c : Hq2.Says hS h K) : Hq.coB K (He.ga K "sum_of_first") "sum_of_first" = true := c.fact 78 rfl
theorem h_def_same_rounds {h : Heap} {K : PySem.W.Frag} (c : Hq2.Says hS h K) : Hq.mo K (He.ga K "same_rounds") = Hq.mv "same_rounds" "same_rounds" s_same_rounds := c.fn 3 rfl
theorem h_co_same_rounds {h : Heap} {K : PySem.W.Frag} (c : Hq2.Says hS h K) : Hq.coB K (He.ga K "same_rounds") "same_rounds" = true := c.fact 79 rfl
theorem h_def_Prices_init {h : Heap} {K : PySem.W.Frag} (c : Hq2.Says hS h K) : Hq.mo K (He.ma K (He.ga K "Prices") "__init__") = Hq.mv "__init__" "Prices.__init__" s_Prices_init := c.fn 4 rfl
theorem h_co_Prices_init {h : Heap} {K : PySem.W.Frag} (c : Hq2.Says hS h K) : Hq.coB K (He.ma K (He.ga K "Prices") "__init__") "Prices.__init__" = true := c.fact 80 rfl
theorem h_def_Prices_len {h : Heap} {K : PySem.W.Frag} (c : Hq2.Says hS h K) : Hq.mo K (He.ma K (He.ga K "Prices") "__len__") = Hq.mv "__len__" "Prices.__len__" s_Prices_len := c.fn 5 rfl
theorem h_co_Prices_len {h : Heap} {K : PySem.W.Frag} (c : Hq2.Says hS h K) : Hq.coB K (He.ma K (He.ga K "Prices") "__len__") "Prices.__len__" = true := c.fact 81 rfl
theorem h_def_Prices_getitem {h : Heap} {K : PySem.W.Frag} (c : Hq2.Says hS h K) : Hq.mo K (He.ma K (He.ga K "Prices") "__getitem__") = Hq.mv "__getitem__" "Prices.__getitem__" s_Prices_getitem := c.fn 6 rfl
theorem h_co_Prices_getitem {h : Heap} {K : PySem.W.Frag} (c : Hq2.Says hS h K) : Hq.coB K (He.ma K (He.ga K "Prices") "__getitem__") "Prices.__getitem__" = true := c.fact 82 rfl
theorem h_def_Prices_call {h : Heap} {K : PySem.W.Frag} (c : Hq2.Says hS h K) : Hq.mo K (He.ma K (He.ga K "Prices") "__call__") = Hq.mv "__call__" "Prices.__call__" s_Prices_call := c.fn 7 rfl
theorem h_co_Prices_call {h : Heap} {K : PySem.W.Frag} (c : Hq2.Says hS h K) : Hq.coB K (He.ma K (He.ga K "Prices") "__call__") "Prices.__call__" = true := c.fact 83 rfl
theorem h_def_Prices_eq {h : Heap} {K : PySem.W.Frag} (c : Hq2.Says hS h K) : Hq.mo K (He.ma K (He.ga K "Prices") "__eq__") = Hq.mv "__eq__" "Prices.__eq__" s_Prices_eq := c.fn 8 rfl
theorem h_co_Prices_eq {h : Heap} {K : PySem.W.Frag} (c : Hq2.Says hS h K) : Hq.coB K (He.ma K (He.ga K "Prices") "__eq__") "Prices.__eq__" = true := c.fact 84 rfl
theorem h_def_Prices_mul {h : Heap} {K : PySem.W.Frag} (c : Hq2.Says hS h K) : Hq.mo K (He.ma K (He.ga K "Prices") "__mul__") = Hq.mv "__mul__" "Prices.__mul__" s_Prices_mul := c.fn 9 rfl
theorem h_co_Prices_mul {h : Heap} {K : PySem.W.Frag} (c : Hq2.Says hS h K) : Hq.coB K (He.ma K (He.ga K "Prices") "__mul__") "Prices.__mul__" = true := c.fact 85 rfl
theorem h_def__law_start {h : Heap} {K : PySem.W.Frag} (c : Hq2.Says hS h K) : Hq.mo K (He.ga K "_law_start") = Hq.mv "_law_start" "_law_start" s__law_start := c.fn 10 rfl
theorem h_co__law_start {h : Heap} {K : PySem.W.Frag} (c : Hq2.Says hS h K) : Hq.coB K (He.ga K "_law_start") "_law_start" = true := c.fact 86 rfl
theorem h_def__law_drawn {h : Heap} {K : PySem.W.Frag} (c : Hq2.Says hS h K) : Hq.mo K (He.ga K "_law_drawn") = Hq.mv "_law_drawn" "_law_drawn" s__law_drawn := c.fn 11 rfl
theorem h_co__law_drawn {h : Heap} {K : PySem.W.Frag} (c : Hq2.Says hS h K) : Hq.coB K (He.ga K "_law_drawn") "_law_drawn" = true := c.fact 87 rfl
theorem h_def__law_same {h : Heap} {K : PySem.W.Frag} (c : Hq2.Says hS h K) : Hq.mo K (He.ga K "_law_same") = Hq.mv "_law_same" "_law_same" s__law_same := c.fn 12 rfl
theorem h_co__law_same {h : Heap} {K : PySem.W.Frag} (c : Hq2.Says hS h K) : Hq.coB K (He.ga K "_law_same") "_law_same" = true := c.fact 88 rfl
theorem h_def__law_outcome {h : Heap} {K : PySem.W.Frag} (c : Hq2.Says hS h K) : Hq.mo K (He.ga K "_law_outcome") = Hq.mv "_law_outcome" "_law_outcome" s__law_outcome := c.fn 13 rfl
theorem h_co__law_outcome {h : Heap} {K : PySem.W.Frag} (c : Hq2.Says hS h K) : Hq.coB K (He.ga K "_law_outcome") "_law_outcome" = true := c.fact 89 rfl
theorem h_def__law_prices {h : Heap} {K : PySem.W.Frag} (c : Hq2.Says hS h K) : Hq.mo K (He.ga K "_law_prices") = Hq.mv "_law_prices" "_law_prices" s__law_prices := c.fn 14 rfl
theorem h_co__law_prices {h : Heap} {K : PySem.W.Frag} (c : Hq2.Says hS h K) : Hq.coB K (He.ga K "_law_prices") "_law_prices" = true := c.fact 90 rfl
theorem h_def__law_long {h : Heap} {K : PySem.W.Frag} (c : Hq2.Says hS h K) : Hq.mo K (He.ga K "_law_long") = Hq.mv "_law_long" "_law_long" s__law_long := c.fn 15 rfl
theorem h_co__law_long {h : Heap} {K : PySem.W.Frag} (c : Hq2.Says hS h K) : Hq.coB K (He.ga K "_law_long") "_law_long" = true := c.fact 91 rfl
theorem h_def__law_refused {h : Heap} {K : PySem.W.Frag} (c : Hq2.Says hS h K) : Hq.mo K (He.ga K "_law_refused") = Hq.mv "_law_refused" "_law_refused" s__law_refused := c.fn 16 rfl
theorem h_co__law_refused {h : Heap} {K : PySem.W.Frag} (c : Hq2.Says hS h K) : Hq.coB K (He.ga K "_law_refused") "_law_refused" = true := c.fact 92 rfl
theorem h_def_law {h : Heap} {K : PySem.W.Frag} (c : Hq2.Says hS h K) : Hq.mo K (He.ga K "law") = Hq.mv "law" "law" s_law := c.fn 17 rfl
theorem h_co_law {h : Heap} {K : PySem.W.Frag} (c : Hq2.Says hS h K) : Hq.coB K (He.ga K "law") "law" = true := c.fact 93 rfl
theorem h_def_Prices_cents {h : Heap} {K : PySem.W.Frag} (c : Hq2.Says hS h K) : Hq.mo K (Hq.gtA K (He.ma K (He.ga K "Prices") "cents")) = Hq.mv "cents" "Prices.cents" s_Prices_cents := c.fn 18 rfl
theorem h_co_Prices_cents {h : Heap} {K : PySem.W.Frag} (c : Hq2.Says hS h K) : Hq.coB K (Hq.gtA K (He.ma K (He.ga K "Prices") "cents")) "Prices.cents" = true := c.fact 94 rfl
set_option maxHeartbeats 0 in
theorem hfacts {w : World} {K : PySem.W.Frag} {h : Heap} {mg : Str → Option Value} {fa : Addr} (X : K.In h) (G : h.Ns mainGlobals mg) (hfa : mg ("law" : Str) = some (.ref fa)) (c : Hq2.Says hS h K) : LamX.LawAtS PySem.Challenge.rw_warmswitch_k43_signs_of_prices w K L2.CX0 16 63 "_law_script" mg fa h := by
  have ns_Prices := h_ns_Prices c
  have pg_Prices := h_pg_Prices c
  have hd_Prices := h_hd_Prices c
  have po_Prices := h_po_Prices c
  have sa_Prices := h_sa_Prices c
  have na_Prices__cents := h_na_Prices__cents c
  have at_check_number := h_at_check_number c
  have kp_check_number := h_kp_check_number c
  have at_first_invalid := h_at_first_invalid c
  have kp_first_invalid := h_kp_first_invalid c
  have at_sum_of_first := h_at_sum_of_first c
  have kp_sum_of_first := h_kp_sum_of_first c
  have at_same_rounds := h_at_same_rounds c
  have kp_same_rounds := h_kp_same_rounds c
  have at_Prices_init := h_at_Prices_init c
  have fn_Prices_init := h_fn_Prices_init c
  have kp_Prices_init := h_kp_Prices_init c
  have mk_Prices := h_mk_Prices c
  have kc_Prices := h_kc_Prices c
  have at_Prices_len := h_at_Prices_len c
  have fn_Prices_len := h_fn_Prices_len c
  have kp_Prices_len := h_kp_Prices_len c
  have at_Prices_getitem := h_at_Prices_getitem c
  have fn_Prices_getitem := h_fn_Prices_getitem c
  have kp_Prices_getitem := h_kp_Prices_getitem c
  have at_Prices_call := h_at_Prices_call c
  have fn_Prices_call := h_fn_Prices_call c
  have kp_Prices_call := h_kp_Prices_call c
  have at_Prices_eq := h_at_Prices_eq c
  have fn_Prices_eq := h_fn_Prices_eq c
  have kp_Prices_eq := h_kp_Prices_eq c
  have at_Prices_mul := h_at_Prices_mul c
  have fn_Prices_mul := h_fn_Prices_mul c
  have kp_Prices_mul := h_kp_Prices_mul c
  have at__law_start := h_at__law_start c
  have kp__law_start := h_kp__law_start c
  have at__law_drawn := h_at__law_drawn c
  have kp__law_drawn := h_kp__law_drawn c
  have at__law_same := h_at__law_same c
  have kp__law_same := h_kp__law_same c
  have at__law_outcome := h_at__law_outcome c
  have kp__law_outcome := h_kp__law_outcome c
  have at__law_prices := h_at__law_prices c
  have kp__law_prices := h_kp__law_prices c
  have at__law_long := h_at__law_long c
  have kp__law_long := h_kp__law_long c
  have at__law_refused := h_at__law_refused c
  have kp__law_refused := h_kp__law_refused c
  have at_law := h_at_law c
  have kp_law := h_kp_law c
  have at_Prices_cents := h_at_Prices_cents c
  have gt_Prices_cents := h_gt_Prices_cents c
  have tk_Prices_cents := h_tk_Prices_cents c
  have rc_Prices_cents := h_rc_Prices_cents c
  have kp_Prices_cents := h_kp_Prices_cents c
  obtain ⟨t_MOST_TICKS, gl_MOST_TICKS⟩ := h_gl_MOST_TICKS c
  have gl_lcm := h_gl_lcm c
  have z_bool := h_z_bool c
  have z_divmod := h_z_divmod c
  have z_enumerate := h_z_enumerate c
  have z_int := h_z_int c
  have z_isinstance := h_z_isinstance c
  have z_len := h_z_len c
  have z_list := h_z_list c
  have z_range := h_z_range c
  have z_sum := h_z_sum c
  have z_tuple := h_z_tuple c
  obtain ⟨t_Prices_MAX_PRICE, cv_Prices_MAX_PRICE, gg_Prices_MAX_PRICE⟩ := h_cv_Prices_MAX_PRICE c
  obtain ⟨t_Prices_MAX_TICKS, cv_Prices_MAX_TICKS, gg_Prices_MAX_TICKS⟩ := h_cv_Prices_MAX_TICKS c
  obtain ⟨oc_check_number, od_check_number, osl_check_number, kV_check_number, dc_check_number, pm_check_number, an_check_number, cd_check_number, ct_check_number, lk_check_number, co_check_number⟩ := Hq.mo_ok (h_def_check_number c) (h_co_check_number c)
  obtain ⟨oc_first_invalid, od_first_invalid, osl_first_invalid, kV_first_invalid, dc_first_invalid, pm_first_invalid, an_first_invalid, cd_first_invalid, ct_first_invalid, lk_first_invalid, co_first_invalid⟩ := Hq.mo_ok (h_def_first_invalid c) (h_co_first_invalid c)
  obtain ⟨oc_sum_of_first, od_sum_of_first, osl_sum_of_first, kV_sum_of_first, dc_sum_of_first, pm_sum_of_first, an_sum_of_first, cd_sum_of_first, ct_sum_of_first, lk_sum_of_first, co_sum_of_first⟩ := Hq.mo_ok (h_def_sum_of_first c) (h_co_sum_of_first c)
  obtain ⟨oc_same_rounds, od_same_rounds, osl_same_rounds, kV_same_rounds, dc_same_rounds, pm_same_rounds, an_same_rounds, cd_same_rounds, ct_same_rounds, lk_same_rounds, co_same_rounds⟩ := Hq.mo_ok (h_def_same_rounds c) (h_co_same_rounds c)
  obtain ⟨oc_Prices_init, od_Prices_init, osl_Prices_init, kV_Prices_init, dc_Prices_init, pm_Prices_init, an_Prices_init, cd_Prices_init, ct_Prices_init, lk_Prices_init, co_Prices_init⟩ := Hq.mo_ok (h_def_Prices_init c) (h_co_Prices_init c)
  obtain ⟨oc_Prices_len, od_Prices_len, osl_Prices_len, kV_Prices_len, dc_Prices_len, pm_Prices_len, an_Prices_len, cd_Prices_len, ct_Prices_len, lk_Prices_len, co_Prices_len⟩ := Hq.mo_ok (h_def_Prices_len c) (h_co_Prices_len c)
  obtain ⟨oc_Prices_getitem, od_Prices_getitem, osl_Prices_getitem, kV_Prices_getitem, dc_Prices_getitem, pm_Prices_getitem, an_Prices_getitem, cd_Prices_getitem, ct_Prices_getitem, lk_Prices_getitem, co_Prices_getitem⟩ := Hq.mo_ok (h_def_Prices_getitem c) (h_co_Prices_getitem c)
  obtain ⟨oc_Prices_call, od_Prices_call, osl_Prices_call, kV_Prices_call, dc_Prices_call, pm_Prices_call, an_Prices_call, cd_Prices_call, ct_Prices_call, lk_Prices_call, co_Prices_call⟩ := Hq.mo_ok (h_def_Prices_call c) (h_co_Prices_call c)
  obtain ⟨oc_Prices_eq, od_Prices_eq, osl_Prices_eq, kV_Prices_eq, dc_Prices_eq, pm_Prices_eq, an_Prices_eq, cd_Prices_eq, ct_Prices_eq, lk_Prices_eq, co_Prices_eq⟩ := Hq.mo_ok (h_def_Prices_eq c) (h_co_Prices_eq c)
  obtain ⟨oc_Prices_mul, od_Prices_mul, osl_Prices_mul, kV_Prices_mul, dc_Prices_mul, pm_Prices_mul, an_Prices_mul, cd_Prices_mul, ct_Prices_mul, lk_Prices_mul, co_Prices_mul⟩ := Hq.mo_ok (h_def_Prices_mul c) (h_co_Prices_mul c)
  obtain ⟨oc__law_start, od__law_start, osl__law_start, kV__law_start, dc__law_start, pm__law_start, an__law_start, cd__law_start, ct__law_start, lk__law_start, co__law_start⟩ := Hq.mo_ok (h_def__law_start c) (h_co__law_start c)
  obtain ⟨oc__law_drawn, od__law_drawn, osl__law_drawn, kV__law_drawn, dc__law_drawn, pm__law_drawn, an__law_drawn, cd__law_drawn, ct__law_drawn, lk__law_drawn, co__law_drawn⟩ := Hq.mo_ok (h_def__law_drawn c) (h_co__law_drawn c)
  obtain ⟨oc__law_same, od__law_same, osl__law_same, kV__law_same, dc__law_same, pm__law_same, an__law_same, cd__law_same, ct__law_same, lk__law_same, co__law_same⟩ := Hq.mo_ok (h_def__law_same c) (h_co__law_same c)
  obtain ⟨oc__law_outcome, od__law_outcome, osl__law_outcome, kV__law_outcome, dc__law_outcome, pm__law_outcome, an__law_outcome, cd__law_outcome, ct__law_outcome, lk__law_outcome, co__law_outcome⟩ := Hq.mo_ok (h_def__law_outcome c) (h_co__law_outcome c)
  obtain ⟨oc__law_prices, od__law_prices, osl__law_prices, kV__law_prices, dc__law_prices, pm__law_prices, an__law_prices, cd__law_prices, ct__law_prices, lk__law_prices, co__law_prices⟩ := Hq.mo_ok (h_def__law_prices c) (h_co__law_prices c)
  obtain ⟨oc__law_long, od__law_long, osl__law_long, kV__law_long, dc__law_long, pm__law_long, an__law_long, cd__law_long, ct__law_long, lk__law_long, co__law_long⟩ := Hq.mo_ok (h_def__law_long c) (h_co__law_long c)
  obtain ⟨oc__law_refused, od__law_refused, osl__law_refused, kV__law_refused, dc__law_refused, pm__law_refused, an__law_refused, cd__law_refused, ct__law_refused, lk__law_refused, co__law_refused⟩ := Hq.mo_ok (h_def__law_refused c) (h_co__law_refused c)
  obtain ⟨oc_law, od_law, osl_law, kV_law, dc_law, pm_law, an_law, cd_law, ct_law, lk_law, co_law⟩ := Hq.mo_ok (h_def_law c) (h_co_law c)
  obtain ⟨oc_Prices_cents, od_Prices_cents, osl_Prices_cents, kV_Prices_cents, dc_Prices_cents, pm_Prices_cents, an_Prices_cents, cd_Prices_cents, ct_Prices_cents, lk_Prices_cents, co_Prices_cents⟩ := Hq.mo_ok (h_def_Prices_cents c) (h_co_Prices_cents c)
  have ea := hfa.symm.trans (PySem.W.mg_of X G at_law)
  have ea : fa = He.ga K "law" := by injection ea with ea; injection ea
  obtain ⟨cl_law, ecl_law⟩ := He.codeIn_ref co_law
  have ecT_law : He.cT K ("law", none) = (cl_law, He.tabOf K cl_law) := by
    have e : He.codeOf K ("law", none) = cl_law := He.codeOf_eq (p := ("law", none)) lk_law ecl_law
    unfold He.cT
    rw [e]
  have mem_law : (cl_law, He.tabOf K cl_law) ∈ hS.cs K := by rw [← ecT_law]; exact List.mem_cons_self
  obtain ⟨cl__law_refused, ecl__law_refused⟩ := He.codeIn_ref co__law_refused
  have ecT__law_refused : He.cT K ("_law_refused", none) = (cl__law_refused, He.tabOf K cl__law_refused) := by
    have e : He.codeOf K ("_law_refused", none) = cl__law_refused := He.codeOf_eq (p := ("_law_refused", none)) lk__law_refused ecl__law_refused
    unfold He.cT
    rw [e]
  have mem__law_refused : (cl__law_refused, He.tabOf K cl__law_refused) ∈ hS.cs K := by rw [← ecT__law_refused]; exact List.mem_cons_of_mem _ (List.mem_cons_self)
  have T : Txt K mg {
      c_Prices := He.ga K "Prices"
      f_check_number := (He.ga K "check_number")
      d_check_number := PySem.W.fnOf "check_number" "check_number" (defArgs s_check_number) (defBody s_check_number) (defScope s_check_number) .none kV_check_number dc_check_number pm_check_number an_check_number cd_check_number ct_check_number
      f_first_invalid := (He.ga K "first_invalid")
      d_first_invalid := PySem.W.fnOf "first_invalid" "first_invalid" (defArgs s_first_invalid) (defBody s_first_invalid) (defScope s_first_invalid) .none kV_first_invalid dc_first_invalid pm_first_invalid an_first_invalid cd_first_invalid ct_first_invalid
      f_sum_of_first := (He.ga K "sum_of_first")
      d_sum_of_first := PySem.W.fnOf "sum_of_first" "sum_of_first" (defArgs s_sum_of_first) (defBody s_sum_of_first) (defScope s_sum_of_first) .none kV_sum_of_first dc_sum_of_first pm_sum_of_first an_sum_of_first cd_sum_of_first ct_sum_of_first
      f_same_rounds := (He.ga K "same_rounds")
      d_same_rounds := PySem.W.fnOf "same_rounds" "same_rounds" (defArgs s_same_rounds) (defBody s_same_rounds) (defScope s_same_rounds) .none kV_same_rounds dc_same_rounds pm_same_rounds an_same_rounds cd_same_rounds ct_same_rounds
      f_Prices_init := (He.ma K (He.ga K "Prices") "__init__")
      d_Prices_init := PySem.W.fnOf "__init__" "Prices.__init__" (defArgs s_Prices_init) (defBody s_Prices_init) (defScope s_Prices_init) .none kV_Prices_init dc_Prices_init pm_Prices_init an_Prices_init cd_Prices_init ct_Prices_init
      f_Prices_len := (He.ma K (He.ga K "Prices") "__len__")
      d_Prices_len := PySem.W.fnOf "__len__" "Prices.__len__" (defArgs s_Prices_len) (defBody s_Prices_len) (defScope s_Prices_len) .none kV_Prices_len dc_Prices_len pm_Prices_len an_Prices_len cd_Prices_len ct_Prices_len
      f_Prices_getitem := (He.ma K (He.ga K "Prices") "__getitem__")
      d_Prices_getitem := PySem.W.fnOf "__getitem__" "Prices.__getitem__" (defArgs s_Prices_getitem) (defBody s_Prices_getitem) (defScope s_Prices_getitem) .none kV_Prices_getitem dc_Prices_getitem pm_Prices_getitem an_Prices_getitem cd_Prices_getitem ct_Prices_getitem
      f_Prices_call := (He.ma K (He.ga K "Prices") "__call__")
      d_Prices_call := PySem.W.fnOf "__call__" "Prices.__call__" (defArgs s_Prices_call) (defBody s_Prices_call) (defScope s_Prices_call) .none kV_Prices_call dc_Prices_call pm_Prices_call an_Prices_call cd_Prices_call ct_Prices_call
      f_Prices_eq := (He.ma K (He.ga K "Prices") "__eq__")
      d_Prices_eq := PySem.W.fnOf "__eq__" "Prices.__eq__" (defArgs s_Prices_eq) (defBody s_Prices_eq) (defScope s_Prices_eq) .none kV_Prices_eq dc_Prices_eq pm_Prices_eq an_Prices_eq cd_Prices_eq ct_Prices_eq
      f_Prices_mul := (He.ma K (He.ga K "Prices") "__mul__")
      d_Prices_mul := PySem.W.fnOf "__mul__" "Prices.__mul__" (defArgs s_Prices_mul) (defBody s_Prices_mul) (defScope s_Prices_mul) .none kV_Prices_mul dc_Prices_mul pm_Prices_mul an_Prices_mul cd_Prices_mul ct_Prices_mul
      f__law_start := (He.ga K "_law_start")
      d__law_start := PySem.W.fnOf "_law_start" "_law_start" (defArgs s__law_start) (defBody s__law_start) (defScope s__law_start) .none kV__law_start dc__law_start pm__law_start an__law_start cd__law_start ct__law_start
      f__law_drawn := (He.ga K "_law_drawn")
      d__law_drawn := PySem.W.fnOf "_law_drawn" "_law_drawn" (defArgs s__law_drawn) (defBody s__law_drawn) (defScope s__law_drawn) .none kV__law_drawn dc__law_drawn pm__law_drawn an__law_drawn cd__law_drawn ct__law_drawn
      f__law_same := (He.ga K "_law_same")
      d__law_same := PySem.W.fnOf "_law_same" "_law_same" (defArgs s__law_same) (defBody s__law_same) (defScope s__law_same) .none kV__law_same dc__law_same pm__law_same an__law_same cd__law_same ct__law_same
      f__law_outcome := (He.ga K "_law_outcome")
      d__law_outcome := PySem.W.fnOf "_law_outcome" "_law_outcome" (defArgs s__law_outcome) (defBody s__law_outcome) (defScope s__law_outcome) .none kV__law_outcome dc__law_outcome pm__law_outcome an__law_outcome cd__law_outcome ct__law_outcome
      f__law_prices := (He.ga K "_law_prices")
      d__law_prices := PySem.W.fnOf "_law_prices" "_law_prices" (defArgs s__law_prices) (defBody s__law_prices) (defScope s__law_prices) .none kV__law_prices dc__law_prices pm__law_prices an__law_prices cd__law_prices ct__law_prices
      f__law_long := (He.ga K "_law_long")
      d__law_long := PySem.W.fnOf "_law_long" "_law_long" (defArgs s__law_long) (defBody s__law_long) (defScope s__law_long) .none kV__law_long dc__law_long pm__law_long an__law_long cd__law_long ct__law_long
      f__law_refused := (He.ga K "_law_refused")
      d__law_refused := PySem.W.fnOf "_law_refused" "_law_refused" (defArgs s__law_refused) (defBody s__law_refused) (defScope s__law_refused) .none kV__law_refused dc__law_refused pm__law_refused an__law_refused cd__law_refused ct__law_refused
      f_law := (He.ga K "law")
      d_law := PySem.W.fnOf "law" "law" (defArgs s_law) (defBody s_law) (defScope s_law) .none kV_law dc_law pm_law an_law cd_law ct_law
      f_Prices_cents := (Hq.gtA K (He.ma K (He.ga K "Prices") "cents"))
      d_Prices_cents := PySem.W.fnOf "cents" "Prices.cents" (defArgs s_Prices_cents) (defBody s_Prices_cents) (defScope s_Prices_cents) .none kV_Prices_cents dc_Prices_cents pm_Prices_cents an_Prices_cents cd_Prices_cents ct_Prices_cents
      p_Prices_cents := He.ma K (He.ga K "Prices") "cents"
      c_Weather := 0
      c_Heater := 0
      c_Drift := 0
      c_Stretch := 0
      c_Timeline := 0
      c_Course := 0
      c_HeatingSum := 0
      c_Room := 0 } := {
      cl_Prices := ⟨pg_Prices, hd_Prices, po_Prices, sa_Prices⟩
      mg_Prices := PySem.W.mg_of X G ns_Prices
      na_Prices__cents := na_Prices__cents
      F_check_number := fun_mk (st := s_check_number) lk_check_number co_check_number kp_check_number
      mg_check_number := PySem.W.mg_of X G at_check_number
      F_first_invalid := fun_mk (st := s_first_invalid) lk_first_invalid co_first_invalid kp_first_invalid
      mg_first_invalid := PySem.W.mg_of X G at_first_invalid
      F_sum_of_first := fun_mk (st := s_sum_of_first) lk_sum_of_first co_sum_of_first kp_sum_of_first
      mg_sum_of_first := PySem.W.mg_of X G at_sum_of_first
      F_same_rounds := fun_mk (st := s_same_rounds) lk_same_rounds co_same_rounds kp_same_rounds
      mg_same_rounds := PySem.W.mg_of X G at_same_rounds
      F_Prices_init := fun_mk (st := s_Prices_init) lk_Prices_init co_Prices_init kp_Prices_init
      mk_Prices := ⟨mk_Prices, at_Prices_init, fn_Prices_init, kc_Prices⟩
      F_Prices_len := fun_mk (st := s_Prices_len) lk_Prices_len co_Prices_len kp_Prices_len
      me_Prices_len := ⟨at_Prices_len, fn_Prices_len, kp_Prices_len⟩
      F_Prices_getitem := fun_mk (st := s_Prices_getitem) lk_Prices_getitem co_Prices_getitem kp_Prices_getitem
      me_Prices_getitem := ⟨at_Prices_getitem, fn_Prices_getitem, kp_Prices_getitem⟩
      F_Prices_call := fun_mk (st := s_Prices_call) lk_Prices_call co_Prices_call kp_Prices_call
      me_Prices_call := ⟨at_Prices_call, fn_Prices_call, kp_Prices_call⟩
      F_Prices_eq := fun_mk (st := s_Prices_eq) lk_Prices_eq co_Prices_eq kp_Prices_eq
      me_Prices_eq := ⟨at_Prices_eq, fn_Prices_eq, kp_Prices_eq⟩
      F_Prices_mul := fun_mk (st := s_Prices_mul) lk_Prices_mul co_Prices_mul kp_Prices_mul
      me_Prices_mul := ⟨at_Prices_mul, fn_Prices_mul, kp_Prices_mul⟩
      F__law_start := fun_mk (st := s__law_start) lk__law_start co__law_start kp__law_start
      mg__law_start := PySem.W.mg_of X G at__law_start
      F__law_drawn := fun_mk (st := s__law_drawn) lk__law_drawn co__law_drawn kp__law_drawn
      mg__law_drawn := PySem.W.mg_of X G at__law_drawn
      F__law_same := fun_mk (st := s__law_same) lk__law_same co__law_same kp__law_same
      mg__law_same := PySem.W.mg_of X G at__law_same
      F__law_outcome := fun_mk (st := s__law_outcome) lk__law_outcome co__law_outcome kp__law_outcome
      mg__law_outcome := PySem.W.mg_of X G at__law_outcome
      F__law_prices := fun_mk (st := s__law_prices) lk__law_prices co__law_prices kp__law_prices
      mg__law_prices := PySem.W.mg_of X G at__law_prices
      F__law_long := fun_mk (st := s__law_long) lk__law_long co__law_long kp__law_long
      mg__law_long := PySem.W.mg_of X G at__law_long
      F__law_refused := fun_mk (st := s__law_refused) lk__law_refused co__law_refused kp__law_refused
      mg__law_refused := PySem.W.mg_of X G at__law_refused
      F_law := fun_mk (st := s_law) lk_law co_law kp_law
      mg_law := PySem.W.mg_of X G at_law
      pr_Prices_cents := ⟨at_Prices_cents, gt_Prices_cents, tk_Prices_cents, _, rc_Prices_cents⟩
      F_Prices_cents := fun_mk (st := s_Prices_cents) lk_Prices_cents co_Prices_cents kp_Prices_cents
      mg_MOST_TICKS := ⟨_, PySem.W.mg_of X G gl_MOST_TICKS⟩
      mg_lcm := PySem.W.mg_of X G gl_lcm
      z_bool := PySem.W.mg_none_of X G z_bool
      z_divmod := PySem.W.mg_none_of X G z_divmod
      z_enumerate := PySem.W.mg_none_of X G z_enumerate
      z_int := PySem.W.mg_none_of X G z_int
      z_isinstance := PySem.W.mg_none_of X G z_isinstance
      z_len := PySem.W.mg_none_of X G z_len
      z_list := PySem.W.mg_none_of X G z_list
      z_range := PySem.W.mg_none_of X G z_range
      z_sum := PySem.W.mg_none_of X G z_sum
      z_tuple := PySem.W.mg_none_of X G z_tuple
      cv_Prices_MAX_PRICE := ⟨_, ⟨cv_Prices_MAX_PRICE, ⟨_, rfl⟩, gg_Prices_MAX_PRICE, by decide +kernel⟩⟩
      cv_Prices_MAX_TICKS := ⟨_, ⟨cv_Prices_MAX_TICKS, ⟨_, rfl⟩, gg_Prices_MAX_TICKS, by decide +kernel⟩⟩ }
  have ER : E2T PySem.Challenge.rw_warmswitch_k43_signs_of_prices.prog K mg (erA2 K) := ⟨ep_of X G (h_epn c), ei_of X G (h_eix c) (c.fx 0 rfl) ⟨_, _, _, _, _, _, _, _, _, _, _, _, _, _, _, _, _, by rfl, rfl, rfl, rfl, by decide⟩ (by decide +kernel), xm_of (h_x1 c), xm_of (h_x2 c), xm_of (h_x3 c)⟩
  have PO : ∀ {b : Ad}, Txt K mg b → b.c_Prices = He.ga K "Prices" → b.f_Prices_eq = He.ma K (He.ga K "Prices") "__eq__" → b.f_Prices_mul = He.ma K (He.ga K "Prices") "__mul__" → b.f_Prices_call = He.ma K (He.ga K "Prices") "__call__" → b.f_Prices_getitem = He.ma K (He.ga K "Prices") "__getitem__" → POp K b := fun _ e f g u v => pO_of e f g u v (h_po c)
  have hne : He.tabOf K cl_law ≠ He.tabOf K cl__law_refused := by
    have e := h_nq c
    unfold nqB at e
    rw [ecT_law, ecT__law_refused] at e
    simpa using e
  refine ⟨PySem.W.fnOf "law" "law" (defArgs s_law) (defBody s_law) (defScope s_law) .none kV_law dc_law pm_law an_law cd_law ct_law, [(cl_law, He.tabOf K cl_law), (cl__law_refused, He.tabOf K cl__law_refused)], spLaw2 K (He.tabOf K cl_law) (He.tabOf K cl__law_refused), (fun p hp => by
    simp only [List.mem_cons, List.not_mem_nil, or_false] at hp
    rcases hp with rfl | rfl
    · exact c.empty _ mem_law
    · exact c.empty _ mem__law_refused), (fun p hp => by
    simp only [List.mem_cons, List.not_mem_nil, or_false] at hp
    rcases hp with rfl | rfl
    · exact c.out _ mem_law
    · exact c.out _ mem__law_refused), (fun p hp => by
    simp only [List.mem_cons, List.not_mem_nil, or_false] at hp
    rcases hp with rfl | rfl
    · exact PySem.W.codeHd_of_K X (c.hd _ mem_law)
    · exact PySem.W.codeHd_of_K X (c.hd _ mem__law_refused)), fun s v => .of_eq rfl, fun H a ns hl _ hT hS => ⟨a, ns, rfl, hS, hl, ?_, fun _ => rfl⟩, fun base _ _ TB => ?_⟩
  · intro p hp
    unfold lamT2 at hp
    simp only [List.mem_cons, List.not_mem_nil, or_false] at hp
    rcases hp with rfl | rfl
    · exact LamX.TabS.nil (hT _ (List.mem_cons_self))
    · exact LamX.TabS.nil (hT _ (List.mem_cons_of_mem _ (List.mem_cons_self)))
  · rw [ea]; exact ok_law T ER (PO T rfl rfl rfl rfl rfl) hne ecl_law (TB _ (List.mem_cons_self)) ecl__law_refused (TB _ (List.mem_cons_of_mem _ (List.mem_cons_self)))
end W6

open PySem PySem.W PySem.Calls PyProof.Rows
set_option maxHeartbeats 0 in
theorem PySem.Challenge.cw_warmswitch_k43_signs_of_prices_holds : PySem.Challenge.rw_warmswitch_k43_signs_of_prices.Holds := by
  w_on; o_law
  refine HandSHeadRun.head_imp (r := OpenLaw.row PySem.Challenge.rw_warmswitch_k43_signs_of_prices) (q := W6.hV) (H := W6.hk) (ob := W6.hob) (M := 40000) (loose := W6.hn) (d := HandSHeadRun.topDef (OpenLaw.row PySem.Challenge.rw_warmswitch_k43_signs_of_prices).prog 21) (kwd := []) W6.hob_eq
    W6.hrun (by kernel_rfl) (by kernel_rfl) (by kernel_rfl) (by rfl) (by first | assumption | decide +kernel) (by decide +kernel) ⟨rfl, rfl, rfl, rfl, rfl, by decide +kernel⟩ ?hw ?hc
  case hw => w_witness2
  case hc =>
    refine Hq2.walk_tab (l := PySem.Challenge.rw_warmswitch_k43_signs_of_prices) (n := 63) (k := 16) (x := "_law_script") (CX := fun _ => L2.CX0) rfl (by decide) (by kernel_rfl) ⟨rfl, by decide, by decide⟩ ?F (fun _ _ _ _ _ z => z)
    intro w mg fa h Y G hmg0
    obtain ⟨K, KX, c⟩ := Y
    have hmg : mg ("law" : PySem.Str) = some (.ref fa) := by
      have e : (HandSHeadRun.topDef (OpenLaw.row PySem.Challenge.rw_warmswitch_k43_signs_of_prices).prog 21).name = ("law" : PySem.Str) := by kernel_rfl
      rw [← e]
      exact hmg0
    exact ⟨K, KX, W6.hfacts KX G hmg c⟩
#print axioms PySem.Challenge.cw_warmswitch_k43_signs_of_prices_holds

